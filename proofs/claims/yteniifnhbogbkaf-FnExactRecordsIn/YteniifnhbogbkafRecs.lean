/-
  OWN TEXT: the contracts of spec.RecordsIn, store.values, impl.RecordsIn.
-/
import Derived.Test.YteniifnhbogbkafSpec2
import Derived.Test.YteniifnhbogbkafImpl3
import Derived.Test.YteniifnhbogbkafPlain3
namespace Go.Proofs.Yteniifnhbogbkaf
open Go.RowKit

set_option maxHeartbeats 1600000 in
set_option maxRecDepth 100000 in
theorem values_any (ao bo : Option Addr) (n m c1 c2 : Nat) (A : Nat → Int) (U : Nat → Bool) (V : Nat → Int) (w : World) (hn : n ≤ 1048576) (hx : SlotsAt w ao n A U V) :
    Calls Try.prog 40 #[.agg #[.slice ao n c1, .slice bo m c2]] w fun e w' => ∃ v, e = .returned v ∧ w'.ownsRow w.heap.size 3 1 v (recs U V n).length (cellsI (recs U V n)) ∧ Below w.heap.size w w' := by
  obtain ⟨j0, ji, jz0, jz1, jz2⟩ := info_parts Try.infoInt
  go_enter Try.func40, Try.ntmps40
  go_wp2
  go_loopw [3, 9] (fun o i wr => ∃ k : Nat, k ≤ n ∧ i = .int .i64 k ∧ wr.ownsRow w.heap.size 3 1 o (recs U V k).length (cellsI (recs U V k)) ∧ Below w.heap.size w wr) (fun _ i _ => n - (intOf i).toNat)
  case atStart => exact ⟨0, Nat.zero_le _, rfl, World.ownsRow_nil _ _ _ _, push (Below.refl _ _) _⟩
  case round =>
    obtain ⟨k, hk, rfl, hown, hbel⟩ := hrel
    have hle := recs_le U V k
    have hsz := hbel.size
    by_cases hlt : k < n
    · obtain ⟨b, off, rfl, g1, g2, g3⟩ := hx k hlt
      have hb := World.block_lt_of_cell? w _ g1
      have s1 := (hbel.cell (p := ⟨b, off + k * 3, none⟩) hb).trans g1
      have s2 := (hbel.cell (p := ⟨b, off + k * 3 + 1, none⟩) hb).trans g2
      have s3 := (hbel.cell (p := ⟨b, off + k * 3 + 2, none⟩) hb).trans g3
      clear g1 g2 g3
      cases hu : U k with
      | true =>
        have HR : Hid (recs U V (k + 1) = recs U V k ++ [V k]) := recs_yes hu
        go_wp2_with (first | (at_builtin; refine wpList_append_lies _ (by rfl) (.tmp 15) (.tmp 18) 23 (by rfl) w.heap.size 3 j0 (.int .i64 0) 1 8 Try.underlying23 ji jz0 jz1 jz2 rfl (by decide) _ (recs U V k).length (cellsI (recs U V k)) (by rfl) ((hown.alloc _).alloc _) ⟨wr.heap.size + 1, 0, none⟩ 1 1 [.int .i64 (V k)] (by rfl) (by rfl) (World.news_of_block (by simpa using heap_alloc_new (wr.alloc _) _)) (by intro u hu; simp at hu; subst hu; rfl) (by decide) (by unfold maxLen; omega) (by omega) (by simp; omega) _ rfl ?_; intro g cap w1 hown1 hgrow hat hlt1))
        go_roundw
        case rel =>
          refine ⟨k + 1, by omega, by go_num, ?_, (push (push hbel _) _).grown hgrow (by simp; omega) (fun j hj => (hown.lt j hj).1)⟩
          rw [HR.out, cellsI_snoc, List.length_append]
          exact hown1
        case measure => simp [intOf]; omega
      | false =>
        have HR : Hid (recs U V (k + 1) = recs U V k) := recs_no hu
        go_wp2
        go_roundw
        case rel => exact ⟨k + 1, by omega, by go_num, by rw [HR.out]; exact hown.alloc _, push hbel _⟩
        case measure => simp [intOf]; omega
    · have : k = n := by omega
      subst this
      go_wp2
      go_ret
      exact ⟨_, rfl, hown, hbel⟩

set_option maxHeartbeats 800000 in
/-- impl.RecordsIn. -/
theorem implRecs_any (ao bo : Option Addr) (n m c1 c2 : Nat) (A : Nat → Int) (U : Nat → Bool) (V F : Nat → Int) (w : World) (hn : n ≤ 1048576) (hm : m ≤ 1048576) (hnil : bo = none → m = 0 ∧ c2 = 0)
    (hx : SlotsAt w ao n A U V) (hy : IntsAt w bo m F) :
    Calls Try.prog 20 #[.agg #[.slice ao n c1, .slice bo m c2]] w fun e w' => ∃ v ok l, e = .returned (.tuple #[v, .bool ok]) ∧ w'.ownsRow w.heap.size 3 1 v l.length (cellsI l) ∧
      (Named n m A U V F → ok = true ∧ l = recs U V n) ∧ (¬ Named n m A U V F → ok = false ∧ l = []) ∧ Below w.heap.size w w' := by
  have h0 : Below w.heap.size w (w.alloc (.cells #[.slice ao n c1, .slice bo m c2] 33)) := push (Below.refl _ _) _
  go_enter Try.func20, Try.ntmps20
  go_wp2_with fail
  refine (storeOf_any ao bo n m c1 c2 A U V F _ hn hm hnil (hx.below h0) (hy.below h0)).mono ?_
  rintro e w1 ⟨v1, v2, rfl, ho1, ho2, hb1⟩
  obtain ⟨a1, d1, rfl, _, _, _⟩ := own_form ho1
  obtain ⟨a2, d2, rfl, _, _, _⟩ := own_form ho2
  have hb2 := push (after h0 hb1) (.cells #[.slice a1 n d1, .slice a2 m d2] 57)
  have y1 := own_slots (ho1.alloc (.cells #[.slice a1 n d1, .slice a2 m d2] 57))
  have y2 := own_ints (ho2.alloc (.cells #[.slice a1 n d1, .slice a2 m d2] 57))
  have hs1 := heap_alloc_new w1 (.cells #[.slice a1 n d1, .slice a2 m d2] 57)
  clear ho1 ho2 hb1 h0
  go_wp2_with fail
  refine (storeGood_any a1 a2 n m d1 d2 A U V F _ hn hm y1 y2).mono ?_
  rintro e w3 ⟨bb, rfl, hiff, hb3⟩
  have HI : Hid (bb = true ↔ Named n m A U V F) := hiff
  clear hiff
  have hbw := after hb2 hb3
  cases bb with
  | true =>
    have HN : Hid (Named n m A U V F) := HI.out.1 rfl
    clear HI
    have hs3 := blk_below hs1 hb3
    have z0 := blk_cell hs3 0 _ rfl
    have z1 := blk_cell hs3 1 _ rfl
    go_wp2_with fail
    refine (values_any a1 a2 n m d1 d2 A U V _ hn (y1.below hb3)).mono ?_
    rintro e w4 ⟨v, rfl, ho, hb4⟩
    go_wp2
    go_ret2
    exact ⟨_, _, _, rfl, own_base ho (by have := hbw.size; omega), fun _ => ⟨rfl, rfl⟩, fun h => absurd HN.out h, after hbw hb4⟩
  | false =>
    have HN : Hid (¬ Named n m A U V F) := fun h => by have := HI.out.2 h; cases this
    clear HI
    go_wp2
    go_ret2
    exact ⟨_, _, [], rfl, World.ownsRow_nil _ _ _ _, (fun h => absurd h HN.out), fun _ => ⟨rfl, rfl⟩, hbw⟩

set_option maxHeartbeats 1600000 in
set_option maxRecDepth 100000 in
/-- spec.RecordsIn. -/
theorem specRecs_any (ao bo : Option Addr) (n m c1 c2 : Nat) (A : Nat → Int) (U : Nat → Bool) (V F : Nat → Int) (w : World) (hn : n ≤ 1048576) (hm : m ≤ 1048576) (hcap : m ≤ c2) (hc2 : c2 ≤ 1000000000000000)
    (hx : SlotsAt w ao n A U V) (hy : IntsAt w bo m F) :
    Calls Try.prog 19 #[.agg #[.slice ao n c1, .slice bo m c2]] w fun e w' => ∃ v ok l, e = .returned (.tuple #[v, .bool ok]) ∧ w'.ownsRow w.heap.size 3 1 v l.length (cellsI l) ∧
      (Good n m A U V F → ok = true ∧ l = recs U V n) ∧ (¬ Good n m A U V F → ok = false ∧ l = []) ∧ Below w.heap.size w w' := by
  obtain ⟨j0, ji, jz0, jz1, jz2⟩ := info_parts Try.infoInt
  have h0 : Below w.heap.size w (w.alloc (.cells #[.slice ao n c1, .slice bo m c2] 33)) := push (Below.refl _ _) _
  have hs0 : (w.alloc (.cells #[.slice ao n c1, .slice bo m c2] 33)).heap[w.heap.size]? = some (.cells #[.slice ao n c1, .slice bo m c2] 33 (0, 0)) := heap_alloc_new w _
  go_enter Try.func19, Try.ntmps19
  go_wp2_with fail
  refine (specGood_any ao bo n m c1 c2 A U V F _ hn hm hcap hc2 (hx.below h0) (hy.below h0)).mono ?_
  rintro e w3 ⟨bb, rfl, hiff, hb3⟩
  have HI : Hid (bb = true ↔ Good n m A U V F) := hiff
  clear hiff
  have hbw := after h0 hb3
  have z0 := blk_cell (blk_below hs0 hb3) 0 _ rfl
  clear h0 hs0 hb3
  cases bb with
  | false =>
    have HN : Hid (¬ Good n m A U V F) := fun h => by have := HI.out.2 h; cases this
    clear HI
    go_wp2
    go_ret2
    exact ⟨_, _, [], rfl, World.ownsRow_nil _ _ _ _, (fun h => absurd h HN.out), fun _ => ⟨rfl, rfl⟩, hbw⟩
  | true =>
    have HN : Hid (Good n m A U V F) := HI.out.1 rfl
    clear HI
    go_wp2
    go_loopw [4, 13] (fun o i wr => ∃ k : Nat, k ≤ n ∧ i = .int .i64 k ∧ wr.ownsRow w.heap.size 3 1 o (recs U V k).length (cellsI (recs U V k)) ∧ Below w.heap.size w wr) (fun _ i _ => n - (intOf i).toNat)
    case atStart => exact ⟨0, Nat.zero_le _, rfl, World.ownsRow_nil _ _ _ _, hbw⟩
    case round =>
      clear hbw z0
      obtain ⟨k, hk, rfl, hown, hbel⟩ := hrel
      have hle := recs_le U V k
      have hsz := hbel.size
      by_cases hlt : k < n
      · obtain ⟨b, off, rfl, g1, g2, g3⟩ := hx k hlt
        have hb := World.block_lt_of_cell? w _ g1
        have s1 := (hbel.cell (p := ⟨b, off + k * 3, none⟩) hb).trans g1
        have s2 := (hbel.cell (p := ⟨b, off + k * 3 + 1, none⟩) hb).trans g2
        have s3 := (hbel.cell (p := ⟨b, off + k * 3 + 2, none⟩) hb).trans g3
        clear g1 g2 g3
        cases hu : U k with
        | true =>
          have HR : Hid (recs U V (k + 1) = recs U V k ++ [V k]) := recs_yes hu
          go_wp2_with (first | (at_builtin; refine wpList_append_lies _ (by rfl) (.tmp 19) (.tmp 22) 23 (by rfl) w.heap.size 3 j0 (.int .i64 0) 1 8 Try.underlying23 ji jz0 jz1 jz2 rfl (by decide) _ (recs U V k).length (cellsI (recs U V k)) (by rfl) ((hown.alloc _).alloc _) ⟨wr.heap.size + 1, 0, none⟩ 1 1 [.int .i64 (V k)] (by rfl) (by rfl) (World.news_of_block (by simpa using heap_alloc_new (wr.alloc _) _)) (by intro u hu; simp at hu; subst hu; rfl) (by decide) (by unfold maxLen; omega) (by omega) (by simp; omega) _ rfl ?_; intro g cap w1 hown1 hgrow hat hlt1))
          go_roundw
          case rel =>
            refine ⟨k + 1, by omega, by go_num, ?_, (push (push hbel _) _).grown hgrow (by simp; omega) (fun j hj => (hown.lt j hj).1)⟩
            rw [HR.out, cellsI_snoc, List.length_append]
            exact hown1
          case measure => simp [intOf]; omega
        | false =>
          have HR : Hid (recs U V (k + 1) = recs U V k) := recs_no hu
          go_wp2
          go_roundw
          case rel => exact ⟨k + 1, by omega, by go_num, by rw [HR.out]; exact hown.alloc _, push hbel _⟩
          case measure => simp [intOf]; omega
      · have : k = n := by omega
        subst this
        go_wp2
        go_ret2
        exact ⟨_, _, _, rfl, hown, (fun _ => ⟨rfl, rfl⟩), (fun h => absurd HN.out h), hbel⟩

end Go.Proofs.Yteniifnhbogbkaf
