/-
  OWN TEXT: SpecAl, SpecT, EqlRec.
-/
import Derived.Test.YtcioofnmhfehaaaGreatB12
import Derived.Test.YtcioofnmhfehaaaGreatB04
import Derived.Test.YtcioofnmhfehaaaGreatB17
import Derived.Test.YtcioofnmhfehaaaGreatB00
namespace Go.Proofs.YtcioofnmhfehaaaGreat
open Go.RowKit Classical

set_option maxHeartbeats 6400000 in
set_option maxRecDepth 100000 in
theorem l9Sailings_any (ao bo : Option Addr) (N c M d : Nat) (S T : Nat → Sail) (w : World) (hN : N ≤ 1048576) (hM : M ≤ 1048576) (hs : ShortAll N S 1048576) (ht : ShortAll M T 1048576) (hx : SailsAt w ao N S) (hy : SailsAt w bo M T) :
    Calls Tryz.prog 17 #[.slice ao N c, .slice bo M d] w fun e w' => e = .returned (.bool (sailsEq N M S T)) ∧ Below w.heap.size w w' := by
  by_cases hnm : N = M
  case neg =>
    have e1 : sailsEq N M S T = false := decide_eq_false (fun h => hnm h.1)
    rw [e1]
    have e2 : ((N : Int) = (M : Int)) = False := by simp; omega
    go_enter Tryz.func17, Tryz.ntmps17
    go_wp2
    go_ret
    exact ⟨rfl, Below.refl _ _⟩
  subst hnm
  have HX : Hid (SailsAt w ao N S) := hx
  have HY : Hid (SailsAt w bo N T) := hy
  have HS : Hid (ShortAll N S 1048576) := hs
  have HT : Hid (ShortAll N T 1048576) := ht
  clear hx hy hs ht
  obtain ⟨q, hq⟩ : ∃ q : Bool, q = sailsEq N N S T := ⟨_, rfl⟩
  have HQ : Hid (q = true ↔ ∀ i, i < N → SailEq (S i) (T i)) := by rw [hq]; exact ⟨fun h => (of_decide_eq_true h).2, fun h => decide_eq_true ⟨rfl, h⟩⟩
  rw [← hq]
  clear hq
  go_enter Tryz.func17, Tryz.ntmps17
  go_wp2
  go_loopw [17] (fun i wr => ∃ k : Nat, k ≤ N ∧ i = .int .i64 k ∧ (∀ j, j < k → SailEq (S j) (T j)) ∧ Below w.heap.size w wr) (fun i _ => N - (intOf i).toNat)
  case atStart => exact ⟨0, Nat.zero_le _, rfl, fun j hj => absurd hj (Nat.not_lt_zero _), Below.refl _ _⟩
  case round =>
    obtain ⟨k, hk, rfl, hal, hbel⟩ := hrel
    have HA : Hid (∀ j, j < k → SailEq (S j) (T j)) := hal
    clear hal
    by_cases hlt : k < N
    case neg =>
      obtain rfl : k = N := by omega
      have hqt : q = true := HQ.out.2 HA.out
      subst hqt
      go_wp2
      go_ret
      exact ⟨rfl, hbel⟩
    obtain ⟨b, off, la, lc, ca, cc, rfl, g0, g1, g2, g3, g4, g5, g6, g7, k1, k2, z1, z2⟩ := HX.out k hlt
    obtain ⟨b2, off2, la', lc', ca', cc', rfl, f0, f1, f2, f3, f4, f5, f6, f7, k3, k4, z3, z4⟩ := HY.out k hlt
    have l1 : b < w.heap.size := World.block_lt_of_cell? w _ g0
    have l2 : b2 < w.heap.size := World.block_lt_of_cell? w _ f0
    have HK : Hid ((PairsAt w la (S k).la ∧ PairsAt w ca (S k).ca) ∧ PairsAt w la' (T k).la ∧ PairsAt w ca' (T k).ca) := ⟨⟨k1, k2⟩, k3, k4⟩
    have n1 : (S k).la.n ≤ 1048576 := (HS.out k hlt).2.2.1
    have n2 : (S k).ca.n ≤ 1048576 := (HS.out k hlt).2.2.2
    clear k1 k2 k3 k4 z1 z2 z3 z4
    have c0 : wr.cell? ⟨b, off + k * 8, none⟩ = some (.int .i64 (S k).id) := (hbel.cell (p := ⟨b, off + k * 8, none⟩) l1).trans g0
    have d0 : wr.cell? ⟨b2, off2 + k * 8, none⟩ = some (.int .i64 (T k).id) := (hbel.cell (p := ⟨b2, off2 + k * 8, none⟩) l2).trans f0
    have c1 : wr.cell? ⟨b, off + k * 8 + 1, none⟩ = some (.string (S k).fr) := (hbel.cell (p := ⟨b, off + k * 8 + 1, none⟩) l1).trans g1
    have d1 : wr.cell? ⟨b2, off2 + k * 8 + 1, none⟩ = some (.string (T k).fr) := (hbel.cell (p := ⟨b2, off2 + k * 8 + 1, none⟩) l2).trans f1
    have c2 : wr.cell? ⟨b, off + k * 8 + 2, none⟩ = some (.string (S k).dst) := (hbel.cell (p := ⟨b, off + k * 8 + 2, none⟩) l1).trans g2
    have d2 : wr.cell? ⟨b2, off2 + k * 8 + 2, none⟩ = some (.string (T k).dst) := (hbel.cell (p := ⟨b2, off2 + k * 8 + 2, none⟩) l2).trans f2
    have c3 : wr.cell? ⟨b, off + k * 8 + 3, none⟩ = some (.int .i64 (S k).dep) := (hbel.cell (p := ⟨b, off + k * 8 + 3, none⟩) l1).trans g3
    have d3 : wr.cell? ⟨b2, off2 + k * 8 + 3, none⟩ = some (.int .i64 (T k).dep) := (hbel.cell (p := ⟨b2, off2 + k * 8 + 3, none⟩) l2).trans f3
    have c4 : wr.cell? ⟨b, off + k * 8 + 4, none⟩ = some (.int .i64 (S k).arr) := (hbel.cell (p := ⟨b, off + k * 8 + 4, none⟩) l1).trans g4
    have d4 : wr.cell? ⟨b2, off2 + k * 8 + 4, none⟩ = some (.int .i64 (T k).arr) := (hbel.cell (p := ⟨b2, off2 + k * 8 + 4, none⟩) l2).trans f4
    have c5 : wr.cell? ⟨b, off + k * 8 + 5, none⟩ = some (.slice la (S k).la.n lc) := (hbel.cell (p := ⟨b, off + k * 8 + 5, none⟩) l1).trans g5
    have d5 : wr.cell? ⟨b2, off2 + k * 8 + 5, none⟩ = some (.slice la' (T k).la.n lc') := (hbel.cell (p := ⟨b2, off2 + k * 8 + 5, none⟩) l2).trans f5
    have c6 : wr.cell? ⟨b, off + k * 8 + 6, none⟩ = some (.slice ca (S k).ca.n cc) := (hbel.cell (p := ⟨b, off + k * 8 + 6, none⟩) l1).trans g6
    have d6 : wr.cell? ⟨b2, off2 + k * 8 + 6, none⟩ = some (.slice ca' (T k).ca.n cc') := (hbel.cell (p := ⟨b2, off2 + k * 8 + 6, none⟩) l2).trans f6
    have c7 : wr.cell? ⟨b, off + k * 8 + 7, none⟩ = some (.int .i64 (S k).most) := (hbel.cell (p := ⟨b, off + k * 8 + 7, none⟩) l1).trans g7
    have d7 : wr.cell? ⟨b2, off2 + k * 8 + 7, none⟩ = some (.int .i64 (T k).most) := (hbel.cell (p := ⟨b2, off2 + k * 8 + 7, none⟩) l2).trans f7
    clear g0 f0 g1 f1 g2 f2 g3 f3 g4 f4 g5 f5 g6 f6 g7 f7
    go_upto_region 6 with fail
    generalize hB : wr.alloc (.cells #[.int .i64 (S k).id, .string (S k).fr, .string (S k).dst, .int .i64 (S k).dep, .int .i64 (S k).arr, .slice la (S k).la.n lc, .slice ca (S k).ca.n cc, .int .i64 (S k).most] 50) = W at *
    have hbw : Below wr.heap.size wr W := by rw [← hB]; exact push (Below.refl _ _) _
    have bB : W.heap[wr.heap.size]? = some (.cells #[.int .i64 (S k).id, .string (S k).fr, .string (S k).dst, .int .i64 (S k).dep, .int .i64 (S k).arr, .slice la (S k).la.n lc, .slice ca (S k).ca.n cc, .int .i64 (S k).most] 50 (0, 0)) := by rw [← hB]; exact heap_alloc_new _ _
    have l3 : b2 < wr.heap.size := by have := hbel.size; omega
    replace d0 := (hbw.cell (p := ⟨b2, off2 + k * 8, none⟩) l3).trans d0
    replace d1 := (hbw.cell (p := ⟨b2, off2 + k * 8 + 1, none⟩) l3).trans d1
    replace d2 := (hbw.cell (p := ⟨b2, off2 + k * 8 + 2, none⟩) l3).trans d2
    replace d3 := (hbw.cell (p := ⟨b2, off2 + k * 8 + 3, none⟩) l3).trans d3
    replace d4 := (hbw.cell (p := ⟨b2, off2 + k * 8 + 4, none⟩) l3).trans d4
    replace d5 := (hbw.cell (p := ⟨b2, off2 + k * 8 + 5, none⟩) l3).trans d5
    replace d6 := (hbw.cell (p := ⟨b2, off2 + k * 8 + 6, none⟩) l3).trans d6
    replace d7 := (hbw.cell (p := ⟨b2, off2 + k * 8 + 7, none⟩) l3).trans d7
    clear hB c0 c1 c2 c3 c4 c5 c6 c7
    go_upto_region 7 with fail
    generalize hB : W.alloc (.cells #[.int .i64 (T k).id, .string (T k).fr, .string (T k).dst, .int .i64 (T k).dep, .int .i64 (T k).arr, .slice la' (T k).la.n lc', .slice ca' (T k).ca.n cc', .int .i64 (T k).most] 50) = V at *
    have hbv : Below W.heap.size W V := by rw [← hB]; exact push (Below.refl _ _) _
    have bA : V.heap[W.heap.size]? = some (.cells #[.int .i64 (T k).id, .string (T k).fr, .string (T k).dst, .int .i64 (T k).dep, .int .i64 (T k).arr, .slice la' (T k).la.n lc', .slice ca' (T k).ca.n cc', .int .i64 (T k).most] 50 (0, 0)) := by rw [← hB]; exact heap_alloc_new _ _
    replace bB := blk_below bB hbv
    have hb3 : Below w.heap.size w V := after (after hbel hbw) hbv
    clear hB d0 d1 d2 d3 d4 d5 d6 d7 hbw hbv
    have HNO : Hid (¬ SailEq (S k) (T k) → q = false) := fun h => by
      cases q with
      | false => rfl
      | true => exact absurd (HQ.out.1 rfl k hlt) h
    by_cases e0 : (S k).id = (T k).id
    case neg =>
      have hqf : q = false := HNO.out (fun h => e0 h.1)
      subst hqf
      have hh : ((S k).id = (T k).id) = False := eq_false e0
      skip
      clear e0 HNO
      have x0 := blk_cell bB 0 _ rfl
      have y0 := blk_cell bA 0 _ rfl
      have x1 := blk_cell bB 1 _ rfl
      have y1 := blk_cell bA 1 _ rfl
      have x2 := blk_cell bB 2 _ rfl
      have y2 := blk_cell bA 2 _ rfl
      have x3 := blk_cell bB 3 _ rfl
      have y3 := blk_cell bA 3 _ rfl
      have x4 := blk_cell bB 4 _ rfl
      have y4 := blk_cell bA 4 _ rfl
      have x5 := blk_cell bB 5 _ rfl
      have y5 := blk_cell bA 5 _ rfl
      have x6 := blk_cell bB 6 _ rfl
      have y6 := blk_cell bA 6 _ rfl
      have x7 := blk_cell bB 7 _ rfl
      have y7 := blk_cell bA 7 _ rfl
      go_wp2
      go_ret
      exact ⟨rfl, hb3⟩
    rw [← e0] at bA
    by_cases e1 : (S k).fr = (T k).fr
    case neg =>
      have hqf : q = false := HNO.out (fun h => e1 h.2.1)
      subst hqf
      have hh : ((S k).fr.toList = (T k).fr.toList) = False := eq_false (fun e => e1 (toList_inj e))
      skip
      clear e1 HNO
      have x0 := blk_cell bB 0 _ rfl
      have y0 := blk_cell bA 0 _ rfl
      have x1 := blk_cell bB 1 _ rfl
      have y1 := blk_cell bA 1 _ rfl
      have x2 := blk_cell bB 2 _ rfl
      have y2 := blk_cell bA 2 _ rfl
      have x3 := blk_cell bB 3 _ rfl
      have y3 := blk_cell bA 3 _ rfl
      have x4 := blk_cell bB 4 _ rfl
      have y4 := blk_cell bA 4 _ rfl
      have x5 := blk_cell bB 5 _ rfl
      have y5 := blk_cell bA 5 _ rfl
      have x6 := blk_cell bB 6 _ rfl
      have y6 := blk_cell bA 6 _ rfl
      have x7 := blk_cell bB 7 _ rfl
      have y7 := blk_cell bA 7 _ rfl
      go_wp2
      go_ret
      exact ⟨rfl, hb3⟩
    rw [← e1] at bA
    by_cases e2 : (S k).dst = (T k).dst
    case neg =>
      have hqf : q = false := HNO.out (fun h => e2 h.2.2.1)
      subst hqf
      have hh : ((S k).dst.toList = (T k).dst.toList) = False := eq_false (fun e => e2 (toList_inj e))
      skip
      clear e2 HNO
      have x0 := blk_cell bB 0 _ rfl
      have y0 := blk_cell bA 0 _ rfl
      have x1 := blk_cell bB 1 _ rfl
      have y1 := blk_cell bA 1 _ rfl
      have x2 := blk_cell bB 2 _ rfl
      have y2 := blk_cell bA 2 _ rfl
      have x3 := blk_cell bB 3 _ rfl
      have y3 := blk_cell bA 3 _ rfl
      have x4 := blk_cell bB 4 _ rfl
      have y4 := blk_cell bA 4 _ rfl
      have x5 := blk_cell bB 5 _ rfl
      have y5 := blk_cell bA 5 _ rfl
      have x6 := blk_cell bB 6 _ rfl
      have y6 := blk_cell bA 6 _ rfl
      have x7 := blk_cell bB 7 _ rfl
      have y7 := blk_cell bA 7 _ rfl
      go_wp2
      go_ret
      exact ⟨rfl, hb3⟩
    rw [← e2] at bA
    by_cases e3 : (S k).dep = (T k).dep
    case neg =>
      have hqf : q = false := HNO.out (fun h => e3 h.2.2.2.1)
      subst hqf
      have hh : ((S k).dep = (T k).dep) = False := eq_false e3
      skip
      clear e3 HNO
      have x0 := blk_cell bB 0 _ rfl
      have y0 := blk_cell bA 0 _ rfl
      have x1 := blk_cell bB 1 _ rfl
      have y1 := blk_cell bA 1 _ rfl
      have x2 := blk_cell bB 2 _ rfl
      have y2 := blk_cell bA 2 _ rfl
      have x3 := blk_cell bB 3 _ rfl
      have y3 := blk_cell bA 3 _ rfl
      have x4 := blk_cell bB 4 _ rfl
      have y4 := blk_cell bA 4 _ rfl
      have x5 := blk_cell bB 5 _ rfl
      have y5 := blk_cell bA 5 _ rfl
      have x6 := blk_cell bB 6 _ rfl
      have y6 := blk_cell bA 6 _ rfl
      have x7 := blk_cell bB 7 _ rfl
      have y7 := blk_cell bA 7 _ rfl
      go_wp2
      go_ret
      exact ⟨rfl, hb3⟩
    rw [← e3] at bA
    by_cases e4 : (S k).arr = (T k).arr
    case neg =>
      have hqf : q = false := HNO.out (fun h => e4 h.2.2.2.2.1)
      subst hqf
      have hh : ((S k).arr = (T k).arr) = False := eq_false e4
      skip
      clear e4 HNO
      have x0 := blk_cell bB 0 _ rfl
      have y0 := blk_cell bA 0 _ rfl
      have x1 := blk_cell bB 1 _ rfl
      have y1 := blk_cell bA 1 _ rfl
      have x2 := blk_cell bB 2 _ rfl
      have y2 := blk_cell bA 2 _ rfl
      have x3 := blk_cell bB 3 _ rfl
      have y3 := blk_cell bA 3 _ rfl
      have x4 := blk_cell bB 4 _ rfl
      have y4 := blk_cell bA 4 _ rfl
      have x5 := blk_cell bB 5 _ rfl
      have y5 := blk_cell bA 5 _ rfl
      have x6 := blk_cell bB 6 _ rfl
      have y6 := blk_cell bA 6 _ rfl
      have x7 := blk_cell bB 7 _ rfl
      have y7 := blk_cell bA 7 _ rfl
      go_wp2
      go_ret
      exact ⟨rfl, hb3⟩
    rw [← e4] at bA
    by_cases e7 : (S k).most = (T k).most
    case neg =>
      have hqf : q = false := HNO.out (fun h => e7 h.2.2.2.2.2.2.2)
      subst hqf
      have hh : ((S k).most = (T k).most) = False := eq_false e7
      skip
      clear e7 HNO
      have x0 := blk_cell bB 0 _ rfl
      have y0 := blk_cell bA 0 _ rfl
      have x1 := blk_cell bB 1 _ rfl
      have y1 := blk_cell bA 1 _ rfl
      have x2 := blk_cell bB 2 _ rfl
      have y2 := blk_cell bA 2 _ rfl
      have x3 := blk_cell bB 3 _ rfl
      have y3 := blk_cell bA 3 _ rfl
      have x4 := blk_cell bB 4 _ rfl
      have y4 := blk_cell bA 4 _ rfl
      have x5 := blk_cell bB 5 _ rfl
      have y5 := blk_cell bA 5 _ rfl
      have x6 := blk_cell bB 6 _ rfl
      have y6 := blk_cell bA 6 _ rfl
      have x7 := blk_cell bB 7 _ rfl
      have y7 := blk_cell bA 7 _ rfl
      go_wp2
      go_ret
      exact ⟨rfl, hb3⟩
    rw [← e7] at bA
    by_cases e5 : (S k).la.n = (T k).la.n
    case neg =>
      have hqf : q = false := HNO.out (fun h => e5 h.2.2.2.2.2.1.1)
      subst hqf
      have hh : (((S k).la.n : Int) = ((T k).la.n : Int)) = False := eq_false (fun e => e5 (by omega))
      have hh2 : (((S k).la.n : Int) != ((T k).la.n : Int)) = true := bne_iff_ne.2 (fun e => e5 (by omega))
      clear e5 HNO
      have x0 := blk_cell bB 0 _ rfl
      have y0 := blk_cell bA 0 _ rfl
      have x1 := blk_cell bB 1 _ rfl
      have y1 := blk_cell bA 1 _ rfl
      have x2 := blk_cell bB 2 _ rfl
      have y2 := blk_cell bA 2 _ rfl
      have x3 := blk_cell bB 3 _ rfl
      have y3 := blk_cell bA 3 _ rfl
      have x4 := blk_cell bB 4 _ rfl
      have y4 := blk_cell bA 4 _ rfl
      have x5 := blk_cell bB 5 _ rfl
      have y5 := blk_cell bA 5 _ rfl
      have x6 := blk_cell bB 6 _ rfl
      have y6 := blk_cell bA 6 _ rfl
      have x7 := blk_cell bB 7 _ rfl
      have y7 := blk_cell bA 7 _ rfl
      go_wp2
      go_ret
      exact ⟨rfl, hb3⟩
    rw [← e5] at bA
    by_cases e6 : (S k).ca.n = (T k).ca.n
    case neg =>
      have hqf : q = false := HNO.out (fun h => e6 h.2.2.2.2.2.2.1.1)
      subst hqf
      have hh : (((S k).ca.n : Int) = ((T k).ca.n : Int)) = False := eq_false (fun e => e6 (by omega))
      have hh2 : (((S k).ca.n : Int) != ((T k).ca.n : Int)) = true := bne_iff_ne.2 (fun e => e6 (by omega))
      clear e6 HNO
      have x0 := blk_cell bB 0 _ rfl
      have y0 := blk_cell bA 0 _ rfl
      have x1 := blk_cell bB 1 _ rfl
      have y1 := blk_cell bA 1 _ rfl
      have x2 := blk_cell bB 2 _ rfl
      have y2 := blk_cell bA 2 _ rfl
      have x3 := blk_cell bB 3 _ rfl
      have y3 := blk_cell bA 3 _ rfl
      have x4 := blk_cell bB 4 _ rfl
      have y4 := blk_cell bA 4 _ rfl
      have x5 := blk_cell bB 5 _ rfl
      have y5 := blk_cell bA 5 _ rfl
      have x6 := blk_cell bB 6 _ rfl
      have y6 := blk_cell bA 6 _ rfl
      have x7 := blk_cell bB 7 _ rfl
      have y7 := blk_cell bA 7 _ rfl
      go_wp2
      go_ret
      exact ⟨rfl, hb3⟩
    rw [← e6] at bA
    have HE : Hid ((S k).id = (T k).id ∧ (S k).fr = (T k).fr ∧ (S k).dst = (T k).dst ∧ (S k).dep = (T k).dep ∧ (S k).arr = (T k).arr ∧ (S k).most = (T k).most ∧ (S k).la.n = (T k).la.n ∧ (S k).ca.n = (T k).ca.n) := ⟨e0, e1, e2, e3, e4, e7, e5, e6⟩
    clear e0 e1 e2 e3 e4 e5 e6 e7
    have x0 := blk_cell bB 0 _ rfl
    have y0 := blk_cell bA 0 _ rfl
    have x1 := blk_cell bB 1 _ rfl
    have y1 := blk_cell bA 1 _ rfl
    have x2 := blk_cell bB 2 _ rfl
    have y2 := blk_cell bA 2 _ rfl
    have x3 := blk_cell bB 3 _ rfl
    have y3 := blk_cell bA 3 _ rfl
    have x4 := blk_cell bB 4 _ rfl
    have y4 := blk_cell bA 4 _ rfl
    have x5 := blk_cell bB 5 _ rfl
    have y5 := blk_cell bA 5 _ rfl
    have x6 := blk_cell bB 6 _ rfl
    have y6 := blk_cell bA 6 _ rfl
    have x7 := blk_cell bB 7 _ rfl
    have y7 := blk_cell bA 7 _ rfl
    go_wp2
    clear x0 y0 x1 y1 x2 y2 x3 y3 x4 y4 x5 y5 x6 y6 x7 y7
    obtain ⟨nwb, hwb⟩ : ∃ u, u = wr.heap.size := ⟨_, rfl⟩
    obtain ⟨nwa, hwa⟩ : ∃ u, u = W.heap.size := ⟨_, rfl⟩
    rw [← hwb] at bB ⊢
    rw [← hwa] at bA ⊢
    clear hwb hwa
    have hqa : Below V.heap.size V V := Below.refl _ _
    go_loopw [87] (fun i wr => ∃ p : Nat, p ≤ (S k).la.n ∧ i = .int .i64 p ∧ (∀ j, j < p → (S k).la.A j = (T k).la.A j ∧ (S k).la.B j = (T k).la.B j) ∧ Below V.heap.size V wr) (fun i _ => (S k).la.n - (intOf i).toNat)
    case atStart => exact ⟨0, Nat.zero_le _, rfl, fun j hj => absurd hj (Nat.not_lt_zero _), hqa⟩
    case round =>
      clear hqa
      obtain ⟨p, hp, rfl, hal, hbel2⟩ := hrel
      have HBa : Hid (∀ j, j < p → (S k).la.A j = (T k).la.A j ∧ (S k).la.B j = (T k).la.B j) := hal
      clear hal
      obtain ⟨wa, hwa⟩ : ∃ u, u = wr := ⟨_, rfl⟩
      subst hwa
      by_cases hlp : p < (S k).la.n
      · have hlq : p < (T k).la.n := by have := HE.out.2.2.2.2.2.2.1; omega
        obtain ⟨bx, ox, ex, g0, g1⟩ := HK.out.1.1 p hlp
        obtain ⟨by_, oy, ey, f0, f1⟩ := HK.out.2.1 p hlq
        have lx : bx < w.heap.size := World.block_lt_of_cell? w _ g0
        have ly : by_ < w.heap.size := World.block_lt_of_cell? w _ f0
        have i1 : (0 : Int) ≤ (p : Int) := by omega
        have i2 : (p : Int) < ((S k).la.n : Int) := by omega
        have ba : ∀ g : Grown wa, g.val.cell? ⟨nwb, 5, none⟩ = some (.slice (some ⟨bx, ox, none⟩) (S k).la.n lc) := fun g => by rw [← ex]; exact blk_cell (blk_below bB (hbel2.trans (g.bel.mono hbel2.size))) 5 _ rfl
        have bb : ∀ g : Grown wa, g.val.cell? ⟨nwa, 5, none⟩ = some (.slice (some ⟨by_, oy, none⟩) (S k).la.n lc') := fun g => by rw [← ey]; exact blk_cell (blk_below bA (hbel2.trans (g.bel.mono hbel2.size))) 5 _ rfl
        have z0 : ∀ g : Grown wa, g.val.cell? ⟨bx, ox + p * 2, none⟩ = some (.int .i64 ((S k).la.A p)) := fun g => ((after hb3 (hbel2.trans (g.bel.mono hbel2.size))).cell (p := ⟨bx, ox + p * 2, none⟩) lx).trans g0
        have z1 : ∀ g : Grown wa, g.val.cell? ⟨bx, ox + p * 2 + 1, none⟩ = some (.int .i64 ((S k).la.B p)) := fun g => ((after hb3 (hbel2.trans (g.bel.mono hbel2.size))).cell (p := ⟨bx, ox + p * 2 + 1, none⟩) lx).trans g1
        have y0 : ∀ g : Grown wa, g.val.cell? ⟨by_, oy + p * 2, none⟩ = some (.int .i64 ((T k).la.A p)) := fun g => ((after hb3 (hbel2.trans (g.bel.mono hbel2.size))).cell (p := ⟨by_, oy + p * 2, none⟩) ly).trans f0
        have y1 : ∀ g : Grown wa, g.val.cell? ⟨by_, oy + p * 2 + 1, none⟩ = some (.int .i64 ((T k).la.B p)) := fun g => ((after hb3 (hbel2.trans (g.bel.mono hbel2.size))).cell (p := ⟨by_, oy + p * 2 + 1, none⟩) ly).trans f1
        obtain ⟨r, hr⟩ : ∃ r : Bool, r = decide ((S k).la.A p = (T k).la.A p ∧ (S k).la.B p = (T k).la.B p) := ⟨_, rfl⟩
        have qn := lane_neq ((S k).la.A p) ((S k).la.B p) ((T k).la.A p) ((T k).la.B p)
        rw [← hr] at qn
        have HP : Hid (r = true ↔ (S k).la.A p = (T k).la.A p ∧ (S k).la.B p = (T k).la.B p) := by rw [hr]; exact decide_eq_true_iff
        clear hr g0 f0 g1 f1 ex ey
        go_upto_region 12 with fail
        refine wp_region_grow (by kernel_rfl) (by kernel_rfl) ?_
        repeat (first | go_big_quiet_skip | (go_big_quiet_want; go_big_quiet_op; go_big_quiet_on))
        refine wpQuiet_nil ?_
        rintro _ ⟨g, rfl⟩
        clear z0 y0 z1 y1 qn ba bb
        cases r with
        | true =>
          go_wp2
          go_roundw
          case rel =>
            refine ⟨p + 1, by omega, by go_num, fun j hj => ?_, after hbel2 g.bel⟩
            by_cases e : j = p
            · subst e; exact HP.out.1 (by first | rfl | trivial)
            · exact HBa.out j (by omega)
          case measure => simp [intOf]; omega
        | false =>
          have hqf : q = false := HNO.out (fun h => absurd (HP.out.2 (h.2.2.2.2.2.1.2 p hlp)) (by decide))
          subst hqf
          go_wp2
          go_ret
          exact ⟨rfl, after hb3 (after hbel2 g.bel)⟩
      · obtain rfl : p = (S k).la.n := by omega
        have hc5 := blk_cell (blk_below bB hbel2) 6 _ rfl
        have hc6 := blk_cell (blk_below bA hbel2) 6 _ rfl
        have hc7 := blk_cell (blk_below bB hbel2) 5 _ rfl
        go_wp2
        clear hc5 hc6 hc7
        have hqb := hbel2
        go_loopw [105] (fun i wr => ∃ p : Nat, p ≤ (S k).ca.n ∧ i = .int .i64 p ∧ (∀ j, j < p → (S k).ca.A j = (T k).ca.A j ∧ (S k).ca.B j = (T k).ca.B j) ∧ Below V.heap.size V wr) (fun i _ => (S k).ca.n - (intOf i).toNat)
        case atStart => exact ⟨0, Nat.zero_le _, rfl, fun j hj => absurd hj (Nat.not_lt_zero _), hqb⟩
        case round =>
          clear hqb
          obtain ⟨p, hp, rfl, hal, hbel2⟩ := hrel
          have HBb : Hid (∀ j, j < p → (S k).ca.A j = (T k).ca.A j ∧ (S k).ca.B j = (T k).ca.B j) := hal
          clear hal
          obtain ⟨wb, hwb⟩ : ∃ u, u = wr := ⟨_, rfl⟩
          subst hwb
          by_cases hlp : p < (S k).ca.n
          · have hlq : p < (T k).ca.n := by have := HE.out.2.2.2.2.2.2.2; omega
            obtain ⟨bx, ox, ex, g0, g1⟩ := HK.out.1.2 p hlp
            obtain ⟨by_, oy, ey, f0, f1⟩ := HK.out.2.2 p hlq
            have lx : bx < w.heap.size := World.block_lt_of_cell? w _ g0
            have ly : by_ < w.heap.size := World.block_lt_of_cell? w _ f0
            have i1 : (0 : Int) ≤ (p : Int) := by omega
            have i2 : (p : Int) < ((S k).ca.n : Int) := by omega
            have ba : ∀ g : Grown wb, g.val.cell? ⟨nwb, 6, none⟩ = some (.slice (some ⟨bx, ox, none⟩) (S k).ca.n cc) := fun g => by rw [← ex]; exact blk_cell (blk_below bB (hbel2.trans (g.bel.mono hbel2.size))) 6 _ rfl
            have bb : ∀ g : Grown wb, g.val.cell? ⟨nwa, 6, none⟩ = some (.slice (some ⟨by_, oy, none⟩) (S k).ca.n cc') := fun g => by rw [← ey]; exact blk_cell (blk_below bA (hbel2.trans (g.bel.mono hbel2.size))) 6 _ rfl
            have z0 : ∀ g : Grown wb, g.val.cell? ⟨bx, ox + p * 2, none⟩ = some (.int .i64 ((S k).ca.A p)) := fun g => ((after hb3 (hbel2.trans (g.bel.mono hbel2.size))).cell (p := ⟨bx, ox + p * 2, none⟩) lx).trans g0
            have z1 : ∀ g : Grown wb, g.val.cell? ⟨bx, ox + p * 2 + 1, none⟩ = some (.int .i64 ((S k).ca.B p)) := fun g => ((after hb3 (hbel2.trans (g.bel.mono hbel2.size))).cell (p := ⟨bx, ox + p * 2 + 1, none⟩) lx).trans g1
            have y0 : ∀ g : Grown wb, g.val.cell? ⟨by_, oy + p * 2, none⟩ = some (.int .i64 ((T k).ca.A p)) := fun g => ((after hb3 (hbel2.trans (g.bel.mono hbel2.size))).cell (p := ⟨by_, oy + p * 2, none⟩) ly).trans f0
            have y1 : ∀ g : Grown wb, g.val.cell? ⟨by_, oy + p * 2 + 1, none⟩ = some (.int .i64 ((T k).ca.B p)) := fun g => ((after hb3 (hbel2.trans (g.bel.mono hbel2.size))).cell (p := ⟨by_, oy + p * 2 + 1, none⟩) ly).trans f1
            obtain ⟨r, hr⟩ : ∃ r : Bool, r = decide ((S k).ca.A p = (T k).ca.A p ∧ (S k).ca.B p = (T k).ca.B p) := ⟨_, rfl⟩
            have qn := cabin_neq ((S k).ca.A p) ((S k).ca.B p) ((T k).ca.A p) ((T k).ca.B p)
            rw [← hr] at qn
            have HP : Hid (r = true ↔ (S k).ca.A p = (T k).ca.A p ∧ (S k).ca.B p = (T k).ca.B p) := by rw [hr]; exact decide_eq_true_iff
            clear hr g0 f0 g1 f1 ex ey
            go_upto_region 18 with fail
            refine wp_region_grow (by kernel_rfl) (by kernel_rfl) ?_
            repeat (first | go_big_quiet_skip | (go_big_quiet_want; go_big_quiet_op; go_big_quiet_on))
            refine wpQuiet_nil ?_
            rintro _ ⟨g, rfl⟩
            clear z0 y0 z1 y1 qn ba bb
            cases r with
            | true =>
              go_wp2
              go_roundw
              case rel =>
                refine ⟨p + 1, by omega, by go_num, fun j hj => ?_, after hbel2 g.bel⟩
                by_cases e : j = p
                · subst e; exact HP.out.1 (by first | rfl | trivial)
                · exact HBb.out j (by omega)
              case measure => simp [intOf]; omega
            | false =>
              have hqf : q = false := HNO.out (fun h => absurd (HP.out.2 (h.2.2.2.2.2.2.1.2 p hlp)) (by decide))
              subst hqf
              go_wp2
              go_ret
              exact ⟨rfl, after hb3 (after hbel2 g.bel)⟩
          · obtain rfl : p = (S k).ca.n := by omega
            go_wp2
            go_roundw
            case rel =>
              refine ⟨k + 1, by omega, by go_num, fun j hj => ?_, after hb3 hbel2⟩
              by_cases e : j = k
              · subst e
                have he := HE.out
                exact ⟨he.1, he.2.1, he.2.2.1, he.2.2.2.1, he.2.2.2.2.1, ⟨he.2.2.2.2.2.2.1, HBa.out⟩, ⟨he.2.2.2.2.2.2.2, HBb.out⟩, he.2.2.2.2.2.1⟩
              · exact HA.out j (by omega)
            case measure => simp [intOf]; omega

end Go.Proofs.YtcioofnmhfehaaaGreat

namespace Go.Proofs.YtcioofnmhfehaaaGreat
open Go.RowKit

set_option maxHeartbeats 3200000 in
set_option maxRecDepth 100000 in
theorem specTab_any (ao : Option Addr) (N c : Nat) (S : Nat → Sail) (w : World) (hN : N ≤ 1048576) (hs : ShortAll N S 1048576) (hx : SailsAt w ao N S) :
    Calls Tryz.prog 16 #[.slice ao N c] w fun e w' => SaysIf (GoodTab N S) e ∧ Below w.heap.size w w' := by
  have HS : Hid (ShortAll N S 1048576) := hs
  clear hs
  by_cases h6 : N ≤ 6
  · have d6 : decide (6 < N) = false := by simp; omega
    go_enter Tryz.func16, Tryz.ntmps16
    go_wp2
    go_loopw [3, 4, 10] (fun _ _ i wr => ∃ k : Nat, k ≤ N ∧ i = .int .i64 k ∧ (∀ j, j < k → GoodSail (S j) ∧ (0 < j → (S (j - 1)).id < (S j).id)) ∧ Below w.heap.size w wr) (fun _ _ i _ => N - (intOf i).toNat)
    case atStart => exact ⟨0, Nat.zero_le _, rfl, fun j hj => by omega, Below.refl _ _⟩
    case round =>
      obtain ⟨k, hk, rfl, hall, hbel⟩ := hrel
      have HA : Hid (∀ j, j < k → GoodSail (S j) ∧ (0 < j → (S (j - 1)).id < (S j).id)) := hall
      clear hall d6
      by_cases hlt : k < N
      · have HP : Hid (0 < k → ∀ b off, ao = some ⟨b, off, none⟩ → w.cell? ⟨b, off + (k - 1) * 8, none⟩ = some (.int .i64 (S (k - 1)).id)) := by
          intro h b off e
          obtain ⟨b', off', _, _, _, _, e', g, _⟩ := hx (k - 1) (by omega)
          rw [e] at e'
          simp only [Option.some.injEq, Addr.mk.injEq, and_true] at e'
          obtain ⟨rfl, rfl⟩ := e'
          exact g
        obtain ⟨b, off, la, lc, ca, cc, rfl, h0, h1, h2, h3, h4, h5, h6', h7, h8, h9, _, _⟩ := hx k hlt
        have HP2 : Hid (0 < k → w.cell? ⟨b, off + (k - 1) * 8, none⟩ = some (.int .i64 (S (k - 1)).id)) := fun h => HP.out h b off rfl
        clear HP
        have hb := World.block_lt_of_cell? w _ h1
        have c0 := (hbel.cell (p := ⟨b, off + k * 8, none⟩) hb).trans h0
        have c1 := (hbel.cell (p := ⟨b, off + k * 8 + 1, none⟩) hb).trans h1
        have c2 := (hbel.cell (p := ⟨b, off + k * 8 + 2, none⟩) hb).trans h2
        have c3 := (hbel.cell (p := ⟨b, off + k * 8 + 3, none⟩) hb).trans h3
        have c4 := (hbel.cell (p := ⟨b, off + k * 8 + 4, none⟩) hb).trans h4
        have c5 := (hbel.cell (p := ⟨b, off + k * 8 + 5, none⟩) hb).trans h5
        have c6 := (hbel.cell (p := ⟨b, off + k * 8 + 6, none⟩) hb).trans h6'
        have c7 := (hbel.cell (p := ⟨b, off + k * 8 + 7, none⟩) hb).trans h7
        obtain ⟨s1, s2, s3, s4⟩ := HS.out k hlt
        have s1' : (S k).fr.size ≤ 1000000000000000 := by omega
        have s2' : (S k).dst.size ≤ 1000000000000000 := by omega
        clear s1 s2
        have hbx := push hbel (.cells #[.int .i64 (S k).id, .string (S k).fr, .string (S k).dst, .int .i64 (S k).dep, .int .i64 (S k).arr, .slice la (S k).la.n lc, .slice ca (S k).ca.n cc, .int .i64 (S k).most] 50)
        have hbox := heap_alloc_new wr (.cells #[.int .i64 (S k).id, .string (S k).fr, .string (S k).dst, .int .i64 (S k).dep, .int .i64 (S k).arr, .slice la (S k).la.n lc, .slice ca (S k).ca.n cc, .int .i64 (S k).most] 50)
        clear h0 h1 h2 h3 h4 h5 h6' h7
        go_upto_region 6 with fail
        generalize hW : wr.alloc (.cells #[.int .i64 (S k).id, .string (S k).fr, .string (S k).dst, .int .i64 (S k).dep, .int .i64 (S k).arr, .slice la (S k).la.n lc, .slice ca (S k).ca.n cc, .int .i64 (S k).most] 50) = W at hbx hbox ⊢
        clear hW
        have hrW : wr.heap.size < W.heap.size := blk_lt hbox
        have z0 : ∀ g : Grown W, g.val.cell? ⟨wr.heap.size, 0, none⟩ = _ := fun g => (g.bel.cell hrW).trans (blk_cell hbox 0 _ rfl)
        have z1 : ∀ g : Grown W, g.val.cell? ⟨wr.heap.size, 1, none⟩ = _ := fun g => (g.bel.cell hrW).trans (blk_cell hbox 1 _ rfl)
        have z2 : ∀ g : Grown W, g.val.cell? ⟨wr.heap.size, 2, none⟩ = _ := fun g => (g.bel.cell hrW).trans (blk_cell hbox 2 _ rfl)
        have z3 : ∀ g : Grown W, g.val.cell? ⟨wr.heap.size, 3, none⟩ = _ := fun g => (g.bel.cell hrW).trans (blk_cell hbox 3 _ rfl)
        have z4 : ∀ g : Grown W, g.val.cell? ⟨wr.heap.size, 4, none⟩ = _ := fun g => (g.bel.cell hrW).trans (blk_cell hbox 4 _ rfl)
        have z5 : ∀ g : Grown W, g.val.cell? ⟨wr.heap.size, 5, none⟩ = _ := fun g => (g.bel.cell hrW).trans (blk_cell hbox 5 _ rfl)
        have z6 : ∀ g : Grown W, g.val.cell? ⟨wr.heap.size, 6, none⟩ = _ := fun g => (g.bel.cell hrW).trans (blk_cell hbox 6 _ rfl)
        have z7 : ∀ g : Grown W, g.val.cell? ⟨wr.heap.size, 7, none⟩ = _ := fun g => (g.bel.cell hrW).trans (blk_cell hbox 7 _ rfl)
        have hbW : b < W.heap.size := Nat.lt_of_lt_of_le hb hbx.size
        clear c0 c1 c2 c3 c4 c5 c6 c7 hbox
        go_cut [10, 32] (fun i c wx => i = .int .i64 k ∧ Tells (GoodSail (S k) ∧ (0 < k → (S (k - 1)).id < (S k).id)) c ∧ Below w.heap.size w wx)
        case first =>
          by_cases hg : GoodSail (S k)
          · have HG : Hid (GoodSail (S k)) := hg
            clear hg
            by_cases k0 : k = 0
            · subst k0
              refine wp_region_grow (by kernel_rfl) (by kernel_rfl) ?_
              repeat (first | go_big_quiet_skip | (go_big_quiet_want; go_big_quiet_op; first | go_big_quiet_on | (apply Exists.intro; refine ⟨fun g => ?_, ?_⟩; (focus (go_at_call 34; refine grown_call (v := .bool true) ((specSailing_any _ _ _ _ _ _ _ _ _ _ _ _ (S 0).la (S 0).ca _ rfl rfl s1' s2' s3 s4 (h8.below (after hbx g.bel)) (h9.below (after hbx g.bel))).mono ?_); rintro e w2 ⟨⟨bb, rfl, hi⟩, hbb⟩; obtain rfl := hi.2 HG.out; exact ⟨rfl, hbb⟩)); go_big_quiet_on)))
              refine wpQuiet_nil ?_
              rintro _ ⟨g, rfl⟩
              go_wp2
              go_meet
              exact ⟨rfl, tells_good ⟨HG.out, fun h => by omega⟩, after hbx g.bel⟩
            · have d0 : decide (0 < k) = true := by simp; omega
              have hk2 : ((k : Int) - 1).toNat = k - 1 := by omega
              have hk3 : (k : Int) - 1 < (N : Int) := by omega
              have hk4 : (0 : Int) ≤ (k : Int) - 1 := by omega
              have hk5 : IntKind.i64.wrap ((k : Int) - 1) = (k : Int) - 1 := by rw [IntKind.wrap_i64]; omega
              have y0 : ∀ g : Grown W, g.val.cell? ⟨b, off + (k - 1) * 8, none⟩ = _ := fun g => ((after hbx g.bel).cell (p := ⟨b, off + (k - 1) * 8, none⟩) hb).trans (HP2.out (by omega))
              by_cases hle : (S k).id ≤ (S (k - 1)).id
              · have e2 : decide ((S k).id ≤ (S (k - 1)).id) = true := by simpa using hle
                refine wp_region_grow (by kernel_rfl) (by kernel_rfl) ?_
                repeat (first | go_big_quiet_skip | (go_big_quiet_want; go_big_quiet_op; first | go_big_quiet_on | (apply Exists.intro; refine ⟨fun g => ?_, ?_⟩; (focus (go_at_call 34; refine grown_call (v := .bool true) ((specSailing_any _ _ _ _ _ _ _ _ _ _ _ _ (S k).la (S k).ca _ rfl rfl s1' s2' s3 s4 (h8.below (after hbx g.bel)) (h9.below (after hbx g.bel))).mono ?_); rintro e w2 ⟨⟨bb, rfl, hi⟩, hbb⟩; obtain rfl := hi.2 HG.out; exact ⟨rfl, hbb⟩)); go_big_quiet_on)))
                refine wpQuiet_nil ?_
                rintro _ ⟨g, rfl⟩
                go_wp2
                go_meet
                exact ⟨rfl, tells_bad (fun h => by have := h.2 (by omega); omega), after hbx g.bel⟩
              · have e2 : decide ((S k).id ≤ (S (k - 1)).id) = false := by simpa using hle
                refine wp_region_grow (by kernel_rfl) (by kernel_rfl) ?_
                repeat (first | go_big_quiet_skip | (go_big_quiet_want; go_big_quiet_op; first | go_big_quiet_on | (apply Exists.intro; refine ⟨fun g => ?_, ?_⟩; (focus (go_at_call 34; refine grown_call (v := .bool true) ((specSailing_any _ _ _ _ _ _ _ _ _ _ _ _ (S k).la (S k).ca _ rfl rfl s1' s2' s3 s4 (h8.below (after hbx g.bel)) (h9.below (after hbx g.bel))).mono ?_); rintro e w2 ⟨⟨bb, rfl, hi⟩, hbb⟩; obtain rfl := hi.2 HG.out; exact ⟨rfl, hbb⟩)); go_big_quiet_on)))
                refine wpQuiet_nil ?_
                rintro _ ⟨g, rfl⟩
                go_wp2
                go_meet
                exact ⟨rfl, tells_good ⟨HG.out, fun _ => by omega⟩, after hbx g.bel⟩
          · have HG : Hid (¬ GoodSail (S k)) := hg
            clear hg
            refine wp_region_grow (by kernel_rfl) (by kernel_rfl) ?_
            repeat (first | go_big_quiet_skip | (go_big_quiet_want; go_big_quiet_op; first | go_big_quiet_on | (apply Exists.intro; refine ⟨fun g => ?_, ?_⟩; (focus (go_at_call 34; refine grown_call (v := .bool false) ((specSailing_any _ _ _ _ _ _ _ _ _ _ _ _ (S k).la (S k).ca _ rfl rfl s1' s2' s3 s4 (h8.below (after hbx g.bel)) (h9.below (after hbx g.bel))).mono ?_); rintro e w2 ⟨⟨bb, rfl, hi⟩, hbb⟩; obtain rfl := Bool.eq_false_iff.2 (fun e => HG.out (hi.1 e)); exact ⟨rfl, hbb⟩)); go_big_quiet_on)))
            refine wpQuiet_nil ?_
            rintro _ ⟨g, rfl⟩
            go_wp2
            go_meet
            exact ⟨rfl, tells_bad (fun h => HG.out h.1), after hbx g.bel⟩
        case rest =>
          obtain ⟨rfl, ⟨t, rfl, ht⟩, hbx2⟩ := hcut
          have HT : Hid (t = false ↔ GoodSail (S k) ∧ (0 < k → (S (k - 1)).id < (S k).id)) := ht
          clear ht z0 z1 z2 z3 z4 z5 z6 z7
          cases t with
          | true =>
            go_wp2
            go_ret
            exact ⟨says_no (fun h => by have := HT.out.2 (h.2 k hlt); cases this), hbx2⟩
          | false =>
            have HK := HT.out.1 rfl
            have HK : Hid _ := HK
            clear HT
            go_wp2
            go_roundw
            case rel => exact ⟨k + 1, by omega, by go_num, fun j hj => by
              by_cases e : j = k
              · subst e; exact HK.out
              · exact HA.out j (by omega), hbx2⟩
            case measure => simp [intOf]; omega
      · obtain rfl : k = N := by omega
        go_wp2
        go_ret
        exact ⟨says_yes ⟨h6, HA.out⟩, hbel⟩
  · have d6 : decide (6 < N) = true := by simp; omega
    go_enter Tryz.func16, Tryz.ntmps16
    go_wp2
    go_ret
    exact ⟨says_no (fun h => h6 h.1), Below.refl _ _⟩

end Go.Proofs.YtcioofnmhfehaaaGreat

namespace Go.Proofs.YtcioofnmhfehaaaGreat
open Go.RowKit Classical

set_option maxHeartbeats 800000 in
theorem stay_eql (a b : Stay) (w : World) : (binOp .eql 57 (.agg #[.int .i64 a.who, .int .i64 a.ln, .int .i64 a.len, .int .i64 a.hei]) (.agg #[.int .i64 b.who, .int .i64 b.ln, .int .i64 b.len, .int .i64 b.hei])).run Tryz.prog w = .ok (.bool (decide (a = b))) w := by
  obtain ⟨a0, a1, a2, a3⟩ := a
  obtain ⟨b0, b1, b2, b3⟩ := b
  simp only [Stay.mk.injEq]
  by_cases h0 : a0 = b0
  case neg => go_simp
  subst h0
  by_cases h1 : a1 = b1
  case neg => go_simp
  subst h1
  by_cases h2 : a2 = b2
  case neg => go_simp
  subst h2
  by_cases h3 : a3 = b3
  case neg => go_simp
  subst h3
  go_simp

set_option maxHeartbeats 800000 in
theorem room_eql (a b : Room) (w : World) : (binOp .eql 59 (.agg #[.int .i64 a.who, .int .i64 a.cab, .int .i64 a.many, .bool a.all]) (.agg #[.int .i64 b.who, .int .i64 b.cab, .int .i64 b.many, .bool b.all])).run Tryz.prog w = .ok (.bool (decide (a = b))) w := by
  obtain ⟨a0, a1, a2, a3⟩ := a
  obtain ⟨b0, b1, b2, b3⟩ := b
  simp only [Room.mk.injEq]
  by_cases h0 : a0 = b0
  case neg => go_simp
  subst h0
  by_cases h1 : a1 = b1
  case neg => go_simp
  subst h1
  by_cases h2 : a2 = b2
  case neg => go_simp
  subst h2
  by_cases h3 : a3 = b3
  case neg => go_simp
  subst h3
  go_simp

set_option maxHeartbeats 800000 in
theorem seat_eql (a b : Seat) (w : World) : (binOp .eql 61 (.agg #[.int .i64 a.who, .int .i64 a.many]) (.agg #[.int .i64 b.who, .int .i64 b.many])).run Tryz.prog w = .ok (.bool (decide (a = b))) w := by
  obtain ⟨a0, a1⟩ := a
  obtain ⟨b0, b1⟩ := b
  simp only [Seat.mk.injEq]
  by_cases h0 : a0 = b0
  case neg => go_simp
  subst h0
  by_cases h1 : a1 = b1
  case neg => go_simp
  subst h1
  go_simp

end Go.Proofs.YtcioofnmhfehaaaGreat
