/-
  OWN TEXT: the contracts of store.handleOf and store.codeOf.
-/
import Derived.Test.YtclcjnbjpelcjaaImpl3
import Derived.Laws.StructEq
import Derived.Deep.RegionHeld3
namespace Go.Proofs.Ytclcjnbjpelcjaa
open Go.RowKit

set_option maxHeartbeats 400000 in
theorem handleOf_any (ao bo : Option Addr) (n m c1 c2 q : Nat) (A : Nat → Int) (U : Nat → Bool) (V : Nat → Int) (w : World) (hq : q < n) (hx : SlotsAt w ao n A U V) :
    Calls Try.prog 125 #[.agg #[.slice ao n c1, .slice bo m c2], .int .i64 q] w fun e w' => e = .returned (.agg #[.int .i64 q, .int .i64 (A q)]) ∧ Below w.heap.size w w' := by
  obtain ⟨b, off, rfl, h1, h2, h3⟩ := hx q hq
  have hb := World.block_lt_of_cell? w _ h1
  have hqn : (q : Int) < (n : Int) := by omega
  go_enter Try.func125, Try.ntmps125
  go_wp2
  exact bodyPost_ret (v := .agg #[.int .i64 q, .int .i64 (A q)]) (by simp [results, Try.results125, go_sem]) rfl ⟨rfl, push (push (Below.refl _ _) _) _⟩

set_option maxHeartbeats 1600000 in
theorem codeOf_any (ao bo : Option Addr) (n m c1 c2 : Nat) (A : Nat → Int) (U : Nat → Bool) (V : Nat → Int) (x a : Int) (w : World) (hx : SlotsAt w ao n A U V) :
    Calls Try.prog 127 #[.agg #[.slice ao n c1, .slice bo m c2], .agg #[.int .i64 x, .int .i64 a]] w fun e w' => e = .returned (.int .i64 (faultOf n A U x a)) ∧ Below w.heap.size w w' := by
  have h0 : Below w.heap.size w ((w.alloc (.cells #[.slice ao n c1, .slice bo m c2] 97)).alloc (.cells #[.int .i64 x, .int .i64 a] 30)) := push (push (Below.refl _ _) _) _
  have hs0 : ((w.alloc (.cells #[.slice ao n c1, .slice bo m c2] 97)).alloc (.cells #[.int .i64 x, .int .i64 a] 30)).heap[w.heap.size]? = some (.cells #[.slice ao n c1, .slice bo m c2] 97 (0, 0)) := blk_alloc (heap_alloc_new w _) _
  have hh0 : ((w.alloc (.cells #[.slice ao n c1, .slice bo m c2] 97)).alloc (.cells #[.int .i64 x, .int .i64 a] 30)).heap[w.heap.size + 1]? = some (.cells #[.int .i64 x, .int .i64 a] 30 (0, 0)) := by simpa using heap_alloc_new (w.alloc _) _
  have HC : Hid _ := fault_cases n A U x a
  rcases HC.out with ⟨hr, hf⟩ | ⟨q, rfl, hq, hc⟩
  · have hb : hasB n x = false := by simp [hasB]; omega
    rw [hf]
    clear HC hf
    go_enter Try.func127, Try.ntmps127
    go_wp2_with (first | (go_at_call 166; refine (has_any _ _ _ _ _ _ _ _).mono ?_; rintro e w2 ⟨rfl, hb2⟩))
    go_ret
    exact ⟨rfl, after h0 hb2⟩
  · have hb : hasB n (q : Int) = true := by simp [hasB]; omega
    clear HC
    rcases hc with ⟨ha, hf⟩ | ⟨rfl, hu, hf⟩ | ⟨rfl, hu, hf⟩
    · rw [hf]
      clear hf
      have ea : (A q == a) = false := by simpa using ha
      go_enter Try.func127, Try.ntmps127
      go_wp2_with (first | (go_at_call 166; refine (has_any _ _ _ _ _ _ _ _).mono ?_; rintro e w2 ⟨rfl, hb2⟩; have hs2 := blk_below hs0 hb2; have hh2 := blk_below hh0 hb2; have p0 := blk_cell hs2 0 _ rfl; have p1 := blk_cell hs2 1 _ rfl; have p2 := blk_cell hh2 0 _ rfl; have p3 := blk_cell hh2 1 _ rfl))
      have dS : w2.drew.heap[w.heap.size]? = some (.cells #[.slice ao n c1, .slice bo m c2] 97 (0, 0)) := hs2
      have dH : w2.drew.heap[w.heap.size + 1]? = some (.cells #[.int .i64 (q : Int), .int .i64 a] 30 (0, 0)) := hh2
      have hbw := after h0 hb2
      go_region_held3 (fun w' => w'.cell? ⟨w.heap.size, 0, none⟩ = some (.slice ao n c1) ∧ w'.cell? ⟨w.heap.size, 1, none⟩ = some (.slice bo m c2) ∧ w'.cell? ⟨w.heap.size + 1, 0, none⟩ = some (.int .i64 (q : Int)) ∧ w'.cell? ⟨w.heap.size + 1, 1, none⟩ = some (.int .i64 a))
        (first | exact ⟨p0, p1, p2, p3⟩ | exact ⟨blk_cell (blk_below dS hb3) 0 _ rfl, blk_cell (blk_below dS hb3) 1 _ rfl, blk_cell (blk_below dH hb3) 0 _ rfl, blk_cell (blk_below dH hb3) 1 _ rfl⟩)
        (first | (go_at_call 125; refine (handleOf_any ao bo n m c1 c2 q A U V _ hq (hx.below hbw.drew)).mono ?_; rintro e w3 ⟨rfl, hb3⟩))
      go_wp2
      go_ret
      exact ⟨rfl, after hbw.drew hb3⟩
    · rw [hf]
      clear hf
      go_enter Try.func127, Try.ntmps127
      go_wp2_with (first | (go_at_call 166; refine (has_any _ _ _ _ _ _ _ _).mono ?_; rintro e w2 ⟨rfl, hb2⟩; have hs2 := blk_below hs0 hb2; have hh2 := blk_below hh0 hb2; have p0 := blk_cell hs2 0 _ rfl; have p1 := blk_cell hs2 1 _ rfl; have p2 := blk_cell hh2 0 _ rfl; have p3 := blk_cell hh2 1 _ rfl))
      have dS : w2.drew.heap[w.heap.size]? = some (.cells #[.slice ao n c1, .slice bo m c2] 97 (0, 0)) := hs2
      have dH : w2.drew.heap[w.heap.size + 1]? = some (.cells #[.int .i64 (q : Int), .int .i64 (A q)] 30 (0, 0)) := hh2
      have hbw := after h0 hb2
      go_region_held3 (fun w' => w'.cell? ⟨w.heap.size, 0, none⟩ = some (.slice ao n c1) ∧ w'.cell? ⟨w.heap.size, 1, none⟩ = some (.slice bo m c2) ∧ w'.cell? ⟨w.heap.size + 1, 0, none⟩ = some (.int .i64 (q : Int)) ∧ w'.cell? ⟨w.heap.size + 1, 1, none⟩ = some (.int .i64 (A q)))
        (first | exact ⟨p0, p1, p2, p3⟩ | exact ⟨blk_cell (blk_below dS hb3) 0 _ rfl, blk_cell (blk_below dS hb3) 1 _ rfl, blk_cell (blk_below dH hb3) 0 _ rfl, blk_cell (blk_below dH hb3) 1 _ rfl⟩)
        (first | (go_at_call 125; refine (handleOf_any ao bo n m c1 c2 q A U V _ hq (hx.below hbw.drew)).mono ?_; rintro e w3 ⟨rfl, hb3⟩))
      have hb4 := after hbw.drew hb3
      obtain ⟨b, off, rfl, h1, h2, h3⟩ := hx q hq
      have hb5 := World.block_lt_of_cell? w _ h1
      have t2 := (hb4.cell (p := ⟨b, off + q * 3 + 1, none⟩) hb5).trans h2
      rw [hu] at t2
      have z0 := blk_cell (blk_below dS hb3) 0 _ rfl
      have z1 := blk_cell (blk_below dH hb3) 0 _ rfl
      have hqn : (q : Int) < (n : Int) := by omega
      go_wp2
      go_ret
      exact ⟨rfl, hb4⟩
    · rw [hf]
      clear hf
      go_enter Try.func127, Try.ntmps127
      go_wp2_with (first | (go_at_call 166; refine (has_any _ _ _ _ _ _ _ _).mono ?_; rintro e w2 ⟨rfl, hb2⟩; have hs2 := blk_below hs0 hb2; have hh2 := blk_below hh0 hb2; have p0 := blk_cell hs2 0 _ rfl; have p1 := blk_cell hs2 1 _ rfl; have p2 := blk_cell hh2 0 _ rfl; have p3 := blk_cell hh2 1 _ rfl))
      have dS : w2.drew.heap[w.heap.size]? = some (.cells #[.slice ao n c1, .slice bo m c2] 97 (0, 0)) := hs2
      have dH : w2.drew.heap[w.heap.size + 1]? = some (.cells #[.int .i64 (q : Int), .int .i64 (A q)] 30 (0, 0)) := hh2
      have hbw := after h0 hb2
      go_region_held3 (fun w' => w'.cell? ⟨w.heap.size, 0, none⟩ = some (.slice ao n c1) ∧ w'.cell? ⟨w.heap.size, 1, none⟩ = some (.slice bo m c2) ∧ w'.cell? ⟨w.heap.size + 1, 0, none⟩ = some (.int .i64 (q : Int)) ∧ w'.cell? ⟨w.heap.size + 1, 1, none⟩ = some (.int .i64 (A q)))
        (first | exact ⟨p0, p1, p2, p3⟩ | exact ⟨blk_cell (blk_below dS hb3) 0 _ rfl, blk_cell (blk_below dS hb3) 1 _ rfl, blk_cell (blk_below dH hb3) 0 _ rfl, blk_cell (blk_below dH hb3) 1 _ rfl⟩)
        (first | (go_at_call 125; refine (handleOf_any ao bo n m c1 c2 q A U V _ hq (hx.below hbw.drew)).mono ?_; rintro e w3 ⟨rfl, hb3⟩))
      have hb4 := after hbw.drew hb3
      obtain ⟨b, off, rfl, h1, h2, h3⟩ := hx q hq
      have hb5 := World.block_lt_of_cell? w _ h1
      have t2 := (hb4.cell (p := ⟨b, off + q * 3 + 1, none⟩) hb5).trans h2
      rw [hu] at t2
      have z0 := blk_cell (blk_below dS hb3) 0 _ rfl
      have z1 := blk_cell (blk_below dH hb3) 0 _ rfl
      have hqn : (q : Int) < (n : Int) := by omega
      go_wp2
      go_ret
      exact ⟨rfl, hb4⟩

end Go.Proofs.Ytclcjnbjpelcjaa
