/-
  OWN TEXT: contracts of the program's GoodRooms and FreeBerths.
-/
import Derived.Test.YtaalhmaacaahhaaFreeR
import Derived.Test.YtaalhmaacaahhaaCloneI
namespace Go.Proofs.Ytaalhmaacaahhaa
open Go.RowKit

theorem six_ints {w : World} {f t m : Nat} {F G : Nat → Int} (h : w.heap[f]? = some (.cells #[.int .i64 (F 0), .int .i64 (F 1), .int .i64 (F 2), .int .i64 (F 3), .int .i64 (F 4), .int .i64 (F 5)] t (0, 0))) (hm : m ≤ 6) (hF : ∀ k, k < m → F k = G k) : IntsAt w (some ⟨f, 0, none⟩) m G := by
  intro k hk
  refine ⟨f, 0, rfl, ?_⟩
  rw [Nat.zero_add, ← hF k hk]
  have : k = 0 ∨ k = 1 ∨ k = 2 ∨ k = 3 ∨ k = 4 ∨ k = 5 := by omega
  rcases this with rfl | rfl | rfl | rfl | rfl | rfl
  · exact blk_cell h 0 _ rfl
  · exact blk_cell h 1 _ rfl
  · exact blk_cell h 2 _ rfl
  · exact blk_cell h 3 _ rfl
  · exact blk_cell h 4 _ rfl
  · exact blk_cell h 5 _ rfl

set_option maxHeartbeats 800000 in
set_option maxRecDepth 100000 in
theorem implRooms_any (ao bo : Option Addr) (m mc n c : Nat) (p : Pairs) (S : Nat → Room) (w : World) (hl : p.n = m) (hm : m ≤ 1048576) (hn : n ≤ 1048576) (hc : n ≤ c) (hx : PairsAt w ao p) (hz : RoomsAt w bo n S) :
    Calls Try.prog 39 #[.slice ao m mc, .slice bo n c] w fun e w' => SaysIf (RoomsS p n S) e ∧ Below w.heap.size w w' := by
  have HX : Hid (PairsAt w ao p) := hx
  have HZ : Hid (RoomsAt w bo n S) := hz
  have HL : Hid (p.n = m) := hl
  clear hx hz hl
  go_enter Try.func39, Try.ntmps39
  go_wp2_with fail
  refine (freeInCabins_any ao bo m mc n c p S _ HL.out hm hn hc HX.out HZ.out).mono ?_
  rintro e w1 ⟨hans, hb1⟩
  unfold FreeRAns six at hans
  rcases hans with ⟨hd, rfl⟩ | ⟨hd, rfl⟩
  · have HD : Hid (RoomsS p n S) := rooms_iff.1 hd
    clear hd
    go_wp2
    go_ret
    exact ⟨says_yes HD.out, (by first | exact hb1 | exact push hb1 _)⟩
  · have HD : Hid (¬ RoomsS p n S) := fun h => hd (rooms_iff.2 h)
    clear hd
    go_wp2
    go_ret
    exact ⟨says_no HD.out, (by first | exact hb1 | exact push hb1 _)⟩

set_option maxHeartbeats 800000 in
set_option maxRecDepth 100000 in
theorem implBerths_any (ao bo : Option Addr) (m mc n c : Nat) (p : Pairs) (S : Nat → Room) (w : World) (hl : p.n = m) (hm : m ≤ 1048576) (hn : n ≤ 1048576) (hc : n ≤ c) (hx : PairsAt w ao p) (hz : RoomsAt w bo n S) :
    Calls Try.prog 38 #[.slice ao m mc, .slice bo n c] w fun e w' => BerthsRes w' w.heap.size 3 p n S e ∧ Below w.heap.size w w' := by
  have HX : Hid (PairsAt w ao p) := hx
  have HZ : Hid (RoomsAt w bo n S) := hz
  have HL : Hid (p.n = m) := hl
  clear hx hz hl
  go_enter Try.func38, Try.ntmps38
  go_wp2_with fail
  refine (freeInCabins_any ao bo m mc n c p S _ HL.out hm hn hc HX.out HZ.out).mono ?_
  rintro e w1 ⟨hans, hb1⟩
  unfold FreeRAns six at hans
  rcases hans with ⟨hd, rfl⟩ | ⟨hd, rfl⟩
  · have HD : Hid (RoomsS p n S) := rooms_iff.1 hd
    have hm6 : m ≤ 6 := by rw [← HL.out]; exact hd.1.1
    clear hd
    have i1 : (0 : Int) ≤ (m : Int) := by omega
    have i2 : (m : Int) ≤ 6 := by omega
    have hb2 := push hb1 (.cells #[.int .i64 (freeR p S n 0), .int .i64 (freeR p S n 1), .int .i64 (freeR p S n 2), .int .i64 (freeR p S n 3), .int .i64 (freeR p S n 4), .int .i64 (freeR p S n 5)] 176)
    have HI : Hid (IntsAt (w1.alloc (.cells #[.int .i64 (freeR p S n 0), .int .i64 (freeR p S n 1), .int .i64 (freeR p S n 2), .int .i64 (freeR p S n 3), .int .i64 (freeR p S n 4), .int .i64 (freeR p S n 5)] 176)) (some ⟨w1.heap.size, 0, none⟩) m (leftR p S n)) := six_ints (F := freeR p S n) (heap_alloc_new w1 _) hm6 (fun k hk => if_pos (by rw [HL.out]; exact hk))
    go_wp2_with (first | (go_at_call 117; refine (cloneInts _ m _ (leftR p S n) _ hm HI.out).mono ?_; rintro e w2 ⟨⟨v, rfl, ho⟩, hb3⟩))
    exact bodyPost_ret (v := .tuple #[v, .bool true]) (by simp [results, Try.results38, go_sem]) rfl ⟨berthsRes_yes HD.out HL.out (own_base ho hb2.size), after hb2 hb3⟩
  · have HD : Hid (¬ RoomsS p n S) := fun h => hd (rooms_iff.2 h)
    clear hd
    go_wp2
    exact bodyPost_ret (v := .tuple #[.slice none 0 0, .bool false]) (by simp [results, Try.results38, go_sem]) rfl ⟨berthsRes_no HD.out, push hb1 _⟩

end Go.Proofs.Ytaalhmaacaahhaa
