/-
  OWN TEXT: the contracts of store.get, impl.GetRecord, spec.l1Fault, spec.GetRecord.
-/
import Derived.Test.YtclcjnbjpelcjaaImpl5
import Derived.Test.YtclcjnbjpelcjaaSpec2
import Derived.Test.YtclcjnbjpelcjaaPlain2
namespace Go.Proofs.Ytclcjnbjpelcjaa
open Go.RowKit

set_option maxHeartbeats 800000 in
theorem get_any (ao bo : Option Addr) (n m c1 c2 : Nat) (A : Nat → Int) (U : Nat → Bool) (V : Nat → Int) (x a : Int) (w : World) (hx : SlotsAt w ao n A U V) :
    Calls Try.prog 52 #[.agg #[.slice ao n c1, .slice bo m c2], .agg #[.int .i64 x, .int .i64 a]] w fun e w' => e = .returned (.tuple #[.int .i64 (gotOf n A U V x a), .int .i64 (faultOf n A U x a)]) ∧ Below w.heap.size w w' := by
  have h0 : Below w.heap.size w ((w.alloc (.cells #[.slice ao n c1, .slice bo m c2] 97)).alloc (.cells #[.int .i64 x, .int .i64 a] 30)) := push (push (Below.refl _ _) _) _
  have hs0 : ((w.alloc (.cells #[.slice ao n c1, .slice bo m c2] 97)).alloc (.cells #[.int .i64 x, .int .i64 a] 30)).heap[w.heap.size]? = some (.cells #[.slice ao n c1, .slice bo m c2] 97 (0, 0)) := blk_alloc (heap_alloc_new w _) _
  have hh0 : ((w.alloc (.cells #[.slice ao n c1, .slice bo m c2] 97)).alloc (.cells #[.int .i64 x, .int .i64 a] 30)).heap[w.heap.size + 1]? = some (.cells #[.int .i64 x, .int .i64 a] 30 (0, 0)) := by simpa using heap_alloc_new (w.alloc _) _
  by_cases hf : faultOf n A U x a = 0
  · have HG : Hid (gotOf n A U V x a = V x.toNat) := if_pos hf
    obtain ⟨q, rfl, hq, _, _⟩ := fault_zero hf
    obtain ⟨b, off, rfl, h1, h2, h3⟩ := hx q hq
    have hbl := World.block_lt_of_cell? w _ h1
    have hqn : (q : Int) < (n : Int) := by omega
    go_enter Try.func52, Try.ntmps52
    go_wp2_with fail
    refine (codeOf_any _ bo n m c1 c2 A U V _ a _ (hx.below h0)).mono ?_
    rintro e w2 ⟨rfl, hb2⟩
    have hbw := after h0 hb2
    have t3 := (hbw.cell (p := ⟨b, off + q * 3 + 2, none⟩) hbl).trans h3
    have z0 := blk_cell (blk_below hs0 hb2) 0 _ rfl
    have z1 := blk_cell (blk_below hh0 hb2) 0 _ rfl
    clear h1 h2 h3
    go_wp2
    go_ret2
    exact ⟨by rw [HG.out, Int.toNat_natCast]; simp [hf], hbw⟩
  · have HG : Hid (gotOf n A U V x a = 0) := if_neg hf
    have hf' : (faultOf n A U x a != 0) = true := by simpa using hf
    go_enter Try.func52, Try.ntmps52
    go_wp2_with fail
    refine (codeOf_any _ bo n m c1 c2 A U V _ a _ (hx.below h0)).mono ?_
    rintro e w2 ⟨rfl, hb2⟩
    go_wp2
    go_ret2
    exact ⟨by rw [HG.out]; rfl, after h0 hb2⟩

set_option maxHeartbeats 800000 in
/-- impl.GetRecord. -/
theorem implGet_any (ao bo : Option Addr) (n m c1 c2 : Nat) (A : Nat → Int) (U : Nat → Bool) (V F : Nat → Int) (x a : Int) (w : World) (hn : n ≤ 1048576) (hm : m ≤ 1048576) (hnil : bo = none → m = 0 ∧ c2 = 0)
    (hx : SlotsAt w ao n A U V) (hy : IntsAt w bo m F) :
    Calls Try.prog 11 #[.agg #[.slice ao n c1, .slice bo m c2], .agg #[.int .i64 x, .int .i64 a]] w fun e w' => ∃ r c : Int, e = .returned (.tuple #[.int .i64 r, .int .i64 c]) ∧
      (Named n m A U V F → r = gotOf n A U V x a ∧ c = faultOf n A U x a) ∧ (¬ Named n m A U V F → r = 0 ∧ c = 1) ∧ Below w.heap.size w w' := by
  have h0 : Below w.heap.size w ((w.alloc (.cells #[.slice ao n c1, .slice bo m c2] 26)).alloc (.cells #[.int .i64 x, .int .i64 a] 30)) := push (push (Below.refl _ _) _) _
  have hh0 : ((w.alloc (.cells #[.slice ao n c1, .slice bo m c2] 26)).alloc (.cells #[.int .i64 x, .int .i64 a] 30)).heap[w.heap.size + 1]? = some (.cells #[.int .i64 x, .int .i64 a] 30 (0, 0)) := by simpa using heap_alloc_new (w.alloc _) _
  go_enter Try.func11, Try.ntmps11
  go_wp2_with fail
  refine (storeOf_any ao bo n m c1 c2 A U V F _ hn hm hnil (hx.below h0) (hy.below h0)).mono ?_
  rintro e w1 ⟨v1, v2, rfl, ho1, ho2, hb1⟩
  obtain ⟨a1, d1, rfl, _, _, _⟩ := own_form ho1
  obtain ⟨a2, d2, rfl, _, _, _⟩ := own_form ho2
  have hb2 := push (after h0 hb1) (.cells #[.slice a1 n d1, .slice a2 m d2] 97)
  have y1 := own_slots (ho1.alloc (.cells #[.slice a1 n d1, .slice a2 m d2] 97))
  have y2 := own_ints (ho2.alloc (.cells #[.slice a1 n d1, .slice a2 m d2] 97))
  have hh1 := blk_alloc (blk_below hh0 hb1) (.cells #[.slice a1 n d1, .slice a2 m d2] 97)
  have hs1 := heap_alloc_new w1 (.cells #[.slice a1 n d1, .slice a2 m d2] 97)
  clear ho1 ho2 hb1 h0 hh0
  go_wp2_with fail
  refine (storeGood_any a1 a2 n m d1 d2 A U V F _ hn hm y1 y2).mono ?_
  rintro e w3 ⟨bb, rfl, hiff, hb3⟩
  have HI : Hid (bb = true ↔ Named n m A U V F) := hiff
  clear hiff
  have hbw := after hb2 hb3
  cases bb with
  | true =>
    have HN : Hid (Named n m A U V F) := HI.out.1 rfl
    clear HI
    have hh3 := blk_below hh1 hb3
    have hs3 := blk_below hs1 hb3
    have z0 := blk_cell hs3 0 _ rfl
    have z1 := blk_cell hs3 1 _ rfl
    have z2 := blk_cell hh3 0 _ rfl
    have z3 := blk_cell hh3 1 _ rfl
    go_wp2_with fail
    refine (get_any a1 a2 n m d1 d2 A U V x a _ (y1.below hb3)).mono ?_
    rintro e w4 ⟨rfl, hb4⟩
    go_wp2
    go_ret2
    exact ⟨_, _, rfl, fun _ => ⟨rfl, rfl⟩, fun h => absurd HN.out h, after hbw hb4⟩
  | false =>
    have HN : Hid (¬ Named n m A U V F) := fun h => by have := HI.out.2 h; cases this
    clear HI
    go_wp2
    go_ret2
    exact ⟨_, _, rfl, (fun h => absurd h HN.out), fun _ => ⟨rfl, rfl⟩, hbw⟩

set_option maxHeartbeats 1600000 in
/-- spec.l1Fault. -/
theorem l1Fault_any (ao bo : Option Addr) (n m c1 c2 : Nat) (A : Nat → Int) (U : Nat → Bool) (V F : Nat → Int) (x a : Int) (w : World) (hn : n ≤ 1048576) (hm : m ≤ 1048576) (hcap : m ≤ c2) (hc2 : c2 ≤ 9223372036854775807)
    (hx : SlotsAt w ao n A U V) (hy : IntsAt w bo m F) :
    Calls Try.prog 165 #[.agg #[.slice ao n c1, .slice bo m c2], .agg #[.int .i64 x, .int .i64 a]] w fun e w' => ∃ c : Int, e = .returned (.int .i64 c) ∧
      (Good n m A U V F → c = faultOf n A U x a) ∧ (¬ Good n m A U V F → c = 1) ∧ Below w.heap.size w w' := by
  have h0 : Below w.heap.size w ((w.alloc (.cells #[.slice ao n c1, .slice bo m c2] 26)).alloc (.cells #[.int .i64 x, .int .i64 a] 30)) := push (push (Below.refl _ _) _) _
  have hs0 : ((w.alloc (.cells #[.slice ao n c1, .slice bo m c2] 26)).alloc (.cells #[.int .i64 x, .int .i64 a] 30)).heap[w.heap.size]? = some (.cells #[.slice ao n c1, .slice bo m c2] 26 (0, 0)) := blk_alloc (heap_alloc_new w _) _
  have hh0 : ((w.alloc (.cells #[.slice ao n c1, .slice bo m c2] 26)).alloc (.cells #[.int .i64 x, .int .i64 a] 30)).heap[w.heap.size + 1]? = some (.cells #[.int .i64 x, .int .i64 a] 30 (0, 0)) := by simpa using heap_alloc_new (w.alloc _) _
  go_enter Try.func165, Try.ntmps165
  go_wp2_with fail
  refine (specGood_any ao bo n m c1 c2 A U V F _ hn hm hcap hc2 (hx.below h0) (hy.below h0)).mono ?_
  rintro e w3 ⟨bb, rfl, hiff, hb3⟩
  have HI : Hid (bb = true ↔ Good n m A U V F) := hiff
  clear hiff
  have hbw := after h0 hb3
  have hh3 := blk_below hh0 hb3
  have hs3 := blk_below hs0 hb3
  clear h0 hs0 hh0 hb3
  have z0 := blk_cell hs3 0 _ rfl
  have z2 := blk_cell hh3 0 _ rfl
  have z3 := blk_cell hh3 1 _ rfl
  cases bb with
  | false =>
    have HN : Hid (¬ Good n m A U V F) := fun h => by have := HI.out.2 h; cases this
    clear HI
    go_wp2
    go_ret
    exact ⟨_, rfl, (fun h => absurd h HN.out), fun _ => rfl, hbw⟩
  | true =>
    have HN : Hid (Good n m A U V F) := HI.out.1 rfl
    clear HI
    rcases fault_cases n A U x a with ⟨hr, hf⟩ | ⟨q, rfl, hq, hc⟩
    · have HF := hf
      change Hid _ at HF
      clear hf
      go_wp2_with (first | (go_at_call 90; refine (l1In_no _ _ _ _ (by omega)).mono ?_; rintro e w' ⟨rfl, rfl⟩))
      go_ret
      exact ⟨_, rfl, (fun _ => HF.out.symm), (fun h => absurd HN.out h), hbw⟩
    · obtain ⟨b, off, rfl, h1, h2, h3⟩ := hx q hq
      have hb5 := World.block_lt_of_cell? w _ h1
      have t1 := (hbw.cell (p := ⟨b, off + q * 3, none⟩) hb5).trans h1
      have t2 := (hbw.cell (p := ⟨b, off + q * 3 + 1, none⟩) hb5).trans h2
      have hqn : (q : Int) < (n : Int) := by omega
      clear h1 h2 h3
      rcases hc with ⟨ha, hf⟩ | ⟨rfl, hu, hf⟩ | ⟨rfl, hu, hf⟩
      · have HF := hf
        change Hid _ at HF
        clear hf
        have ea : (A q != a) = true := by simpa using ha
        go_wp2_with (first | (go_at_call 90; refine (l1In_yes _ _ _ _ (by omega) (by omega)).mono ?_; rintro e w' ⟨rfl, rfl⟩))
        go_quiet (fail)
        go_wp2
        go_ret
        exact ⟨_, rfl, (fun _ => HF.out.symm), (fun h => absurd HN.out h), below_drewN hbw _⟩
      · have HF := hf
        change Hid _ at HF
        clear hf
        rw [hu] at t2
        go_wp2_with (first | (go_at_call 90; refine (l1In_yes _ _ _ _ (by omega) (by omega)).mono ?_; rintro e w' ⟨rfl, rfl⟩))
        go_quiet (fail)
        go_wp2
        go_ret
        exact ⟨_, rfl, (fun _ => HF.out.symm), (fun h => absurd HN.out h), below_drewN hbw _⟩
      · have HF := hf
        change Hid _ at HF
        clear hf
        rw [hu] at t2
        go_wp2_with (first | (go_at_call 90; refine (l1In_yes _ _ _ _ (by omega) (by omega)).mono ?_; rintro e w' ⟨rfl, rfl⟩))
        go_quiet (fail)
        go_wp2
        go_ret
        exact ⟨_, rfl, (fun _ => HF.out.symm), (fun h => absurd HN.out h), below_drewN hbw _⟩

end Go.Proofs.Ytclcjnbjpelcjaa
