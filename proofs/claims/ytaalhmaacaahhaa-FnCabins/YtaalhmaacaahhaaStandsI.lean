/-
  OWN TEXT: the contract of the program's standsIn.
-/
import Derived.Test.YtaalhmaacaahhaaRoomIn
import Derived.Test.YtaalhmaacaahhaaPlainR6
import Derived.Test.YtaalhmaacaahhaaKitG
import Derived.Deep.DrawnRows
namespace Go.Proofs.Ytaalhmaacaahhaa
open Go.RowKit

attribute [local go_sem ↓] Go.wp_at_zero Go.wp_at_succ

theorem setI {W w : World} {b i : Nat} (h : Below W.heap.size W w) (hb : W.heap.size ≤ b) (u : Value) : Below W.heap.size W (w.setCell ⟨b, i, none⟩ u) := h.setCell hb u
/-- Six numbers, as the value of an array. -/
def six (F : Nat → Int) : Value := .agg #[.int .i64 (F 0), .int .i64 (F 1), .int .i64 (F 2), .int .i64 (F 3), .int .i64 (F 4), .int .i64 (F 5)]

set_option maxHeartbeats 6400000 in
set_option maxRecDepth 100000 in
theorem standsIn_any (ao : Option Addr) (n c : Nat) (p : Pairs) (F : Nat → Int) (x cab many : Int) (all : Bool) (w : World) (hl : p.n = n) (hg : GoodC p) (hz : PairsAt w ao p) :
    Calls Try.prog 164 #[.slice ao n c, .agg #[.int .i64 (F 0), .int .i64 (F 1), .int .i64 (F 2), .int .i64 (F 3), .int .i64 (F 4), .int .i64 (F 5)], .agg #[.int .i64 x, .int .i64 cab, .int .i64 many, .bool all]] w fun e w' => SaysIf (Stands p F ⟨x, cab, many, all⟩) e ∧ Below w.heap.size w w' := by
  have HL : Hid (p.n = n) := hl
  have HG : Hid (GoodC p) := hg
  have hn6 : n ≤ 6 := by rw [← hl]; exact hg.1
  clear hl hg
  have hmf : ∀ (fn : Fn) (first cap : Array Value) (w : World), (Instr.makeFunc fn first cap).run Try.prog w = .ok (.func fn first cap) w := fun _ _ _ _ => rfl
  have k1 := nilB
  have k2 := nilW
  have k3 := methB
  have k4 := methW
  go_enter Try.func164, Try.ntmps164
  go_upto_region 1 with fail
  have b0 : ((w.alloc (.cells #[.int .i64 (F 0), .int .i64 (F 1), .int .i64 (F 2), .int .i64 (F 3), .int .i64 (F 4), .int .i64 (F 5)] 176)).alloc (.cells #[.int .i64 x, .int .i64 cab, .int .i64 many, .bool all] 174)).heap[w.heap.size]? = some (.cells #[.int .i64 (F 0), .int .i64 (F 1), .int .i64 (F 2), .int .i64 (F 3), .int .i64 (F 4), .int .i64 (F 5)] 176 (0, 0)) := blk_alloc (heap_alloc_new w _) _
  have b1 : ((w.alloc (.cells #[.int .i64 (F 0), .int .i64 (F 1), .int .i64 (F 2), .int .i64 (F 3), .int .i64 (F 4), .int .i64 (F 5)] 176)).alloc (.cells #[.int .i64 x, .int .i64 cab, .int .i64 many, .bool all] 174)).heap[w.heap.size + 1]? = some (.cells #[.int .i64 x, .int .i64 cab, .int .i64 many, .bool all] 174 (0, 0)) := by simpa using heap_alloc_new (w.alloc _) _
  have hb0 : Below w.heap.size w ((w.alloc (.cells #[.int .i64 (F 0), .int .i64 (F 1), .int .i64 (F 2), .int .i64 (F 3), .int .i64 (F 4), .int .i64 (F 5)] 176)).alloc (.cells #[.int .i64 x, .int .i64 cab, .int .i64 many, .bool all] 174)) := push (push (Below.refl _ _) _) _
  generalize (w.alloc (.cells #[.int .i64 (F 0), .int .i64 (F 1), .int .i64 (F 2), .int .i64 (F 3), .int .i64 (F 4), .int .i64 (F 5)] 176)).alloc (.cells #[.int .i64 x, .int .i64 cab, .int .i64 many, .bool all] 174) = W at b0 b1 hb0 ⊢
  have hwr : IntKind.i64.wrap ((n : Int) - 1) = (n : Int) - 1 := by rw [IntKind.wrap_i64]; omega
  have z1 := blk_cell b1 1 _ rfl
  by_cases h3 : In cab 0 ((n : Int) - 1)
  · have e3 : decide (In cab 0 ((n : Int) - 1)) = true := decide_eq_true h3
    have H3 : Hid (In cab 0 ((n : Int) - 1)) := h3
    obtain ⟨m, rfl⟩ : ∃ m : Nat, cab = m := ⟨cab.toNat, by unfold In at h3; omega⟩
    have hm : m < n := by unfold In at h3; omega
    clear h3
    obtain ⟨b, off, rfl, g1, g2⟩ := hz m (by rw [HL.out]; exact hm)
    have hb := World.block_lt_of_cell? w _ g1
    have i1 : (0 : Int) ≤ (m : Int) := by omega
    have i2 : (m : Int) < (n : Int) := by omega
    have i3 : (m : Int) < 6 := by omega
    have i4 : m < 6 := by omega
    have HB0 : Hid (Below w.heap.size w W) := hb0
    have keepS : Hid (∀ w', Below W.heap.size W w' → (w'.cell? ⟨w.heap.size + 1, 0, none⟩ = some (.int .i64 x) ∧ w'.cell? ⟨w.heap.size + 1, 1, none⟩ = some (.int .i64 (m : Int)) ∧ w'.cell? ⟨w.heap.size + 1, 2, none⟩ = some (.int .i64 many) ∧ w'.cell? ⟨w.heap.size + 1, 3, none⟩ = some (.bool all) ∧ w'.cell? ⟨b, off + m * 2, none⟩ = some (.int .i64 (p.A m)) ∧ w'.cell? ⟨b, off + m * 2 + 1, none⟩ = some (.int .i64 (p.B m)) ∧ w'.cell? ⟨w.heap.size, m, none⟩ = some (.int .i64 (F m)))) := fun w' h => by
      have r1 := blk_below b1 h
      have r0 := blk_below b0 h
      refine ⟨blk_cell r1 0 _ rfl, blk_cell r1 1 _ rfl, blk_cell r1 2 _ rfl, blk_cell r1 3 _ rfl, ((after hb0 h).cell (p := ⟨b, off + m * 2, none⟩) hb).trans g1, ((after hb0 h).cell (p := ⟨b, off + m * 2 + 1, none⟩) hb).trans g2, ?_⟩
      have : m = 0 ∨ m = 1 ∨ m = 2 ∨ m = 3 ∨ m = 4 ∨ m = 5 := by omega
      rcases this with rfl | rfl | rfl | rfl | rfl | rfl
      · exact blk_cell r0 0 _ rfl
      · exact blk_cell r0 1 _ rfl
      · exact blk_cell r0 2 _ rfl
      · exact blk_cell r0 3 _ rfl
      · exact blk_cell r0 4 _ rfl
      · exact blk_cell r0 5 _ rfl
    have hs1 : w.heap.size + 1 < W.heap.size := blk_lt b1
    clear g1 g2 b0 b1 hb0 hz
    cases all with
    | false =>
      go_upto_region 3 with (first | (go_at_call 87; refine (within_is _ _ _ _).mono ?_; rintro e w' ⟨rfl, hw'⟩; have hw' := hw'.symm; subst hw'))
      go_cut [7, 8] (fun s7 s8 wc => ∃ B, s7 = .pointer (some ⟨B, 0, none⟩) ∧ s8 = .bool (decide (In many 1 (F m))) ∧ wc.cell? ⟨B, 2, none⟩ = some (.int .i64 many) ∧ Below W.heap.size W wc)
      case first =>
        go_region_held3 (fun w' => w'.cell? ⟨w.heap.size + 1, 0, none⟩ = some (.int .i64 x) ∧ w'.cell? ⟨w.heap.size + 1, 1, none⟩ = some (.int .i64 (m : Int)) ∧ w'.cell? ⟨w.heap.size + 1, 2, none⟩ = some (.int .i64 many) ∧ w'.cell? ⟨w.heap.size + 1, 3, none⟩ = some (.bool false) ∧ w'.cell? ⟨b, off + m * 2, none⟩ = some (.int .i64 (p.A m)) ∧ w'.cell? ⟨b, off + m * 2 + 1, none⟩ = some (.int .i64 (p.B m)) ∧ w'.cell? ⟨w.heap.size, m, none⟩ = some (.int .i64 (F m)))
          ((refine keepS.out _ ?_; (repeat (first | exact Below.refl _ _ | refine Below.drew ?_ | refine push ?_ _ | refine setI ?_ (by omega) _ | refine after ?_ hb4 | refine after ?_ hb3))))
          (first | (go_at_call 195; refine (wayOf_any _ _ _ _ _).mono ?_; rintro e w3 ⟨rfl, hb3⟩; have s3 : W.heap.size ≤ w3.heap.size := (by have := hb3.size; first | omega | (simp at this; omega)); (first | (have hbx : w3.heap[W.heap.size]? = some (.cells #[.int .i64 0, .int .i64 0, .int .i64 0, .bool false] 174 (0, 0)) := blk_below (heap_alloc_new W.drew (.cells #[.int .i64 0, .int .i64 0, .int .i64 0, .bool false] 174)) hb3) | skip)) | (go_at_call 226; refine (roomInB_any _ _ _ _ _).mono ?_; rintro e w4 ⟨rfl, hb4⟩; (first | (have hby : w4.heap[W.heap.size]? = some (.cells #[.int .i64 0, .int .i64 0, .int .i64 0, .bool false] 174 (0, 0)) := blk_below hbx hb4; have y0 := blk_cell hby 0 _ rfl; have y1 := blk_cell hby 1 _ rfl; have y2 := blk_cell hby 2 _ rfl; have y3 := blk_cell hby 3 _ rfl; have f0 := blk_free hby 0; have f1 := blk_free hby 1; have f2 := blk_free hby 2; have f3 := blk_free hby 3) | (have hby := blk_below (heap_alloc_new w3 (.cells #[.int .i64 0, .int .i64 0, .int .i64 0, .bool false] 174)) hb4; have y0 := blk_cell hby 0 _ rfl; have y1 := blk_cell hby 1 _ rfl; have y2 := blk_cell hby 2 _ rfl; have y3 := blk_cell hby 3 _ rfl; have f0 := blk_free hby 0; have f1 := blk_free hby 1; have f2 := blk_free hby 2; have f3 := blk_free hby 3) | (have hby := blk_below (heap_alloc_new w3.drew (.cells #[.int .i64 0, .int .i64 0, .int .i64 0, .bool false] 174)) hb4; have y0 := blk_cell hby 0 _ rfl; have y1 := blk_cell hby 1 _ rfl; have y2 := blk_cell hby 2 _ rfl; have y3 := blk_cell hby 3 _ rfl; have f0 := blk_free hby 0; have f1 := blk_free hby 1; have f2 := blk_free hby 2; have f3 := blk_free hby 3) | skip)))
        all_goals
          go_wp2
          go_meet
          exact ⟨_, rfl, rfl, (by first | exact blk_cell (heap_alloc_new w4 _) 2 _ rfl | exact blk_cell (blk_set (blk_set (blk_set (blk_set hby 0 _) 1 _) 2 _) 3 _) 2 _ rfl), (by (repeat (first | exact Below.refl _ _ | refine Below.drew ?_ | refine push ?_ _ | refine setI ?_ (by omega) _ | refine after ?_ hb4 | refine after ?_ hb3)))⟩
      case rest =>
      obtain ⟨B, rfl, rfl, hc2, hbW⟩ := hcut
      have hd2 := (keepS.out _ hbW).2.2.1
      by_cases g5 : In many 1 (F m)
      · have e5 : decide (In many 1 (F m)) = true := decide_eq_true g5
        have H5 : Hid (In many 1 (F m)) := g5
        clear g5
        go_wp2
        go_ret
        exact ⟨says_yes ⟨by rw [HL.out]; exact H3.out, fun h => (by cases h), fun _ => H5.out⟩, after HB0.out hbW⟩
      · have e5 : decide (In many 1 (F m)) = false := decide_eq_false g5
        have H5 : Hid (¬ In many 1 (F m)) := g5
        clear g5
        go_wp2
        go_ret
        exact ⟨says_no (fun h => H5.out (h.2.2 rfl)), after HB0.out hbW⟩
    | true =>
      have hB0 : (0 : Int) ≤ p.B m := by have := (HG.out.2 m (by rw [HL.out]; exact hm)).2; unfold In at this; omega
      go_upto_region 3 with (first | (go_at_call 87; refine (within_is _ _ _ _).mono ?_; rintro e w' ⟨rfl, hw'⟩; have hw' := hw'.symm; subst hw'))
      go_cut [7, 8] (fun s7 s8 wc => ∃ B, s7 = .pointer (some ⟨B, 0, none⟩) ∧ s8 = .bool (decide (F m = p.B m)) ∧ wc.cell? ⟨B, 2, none⟩ = some (.int .i64 (p.B m)) ∧ Below W.heap.size W wc)
      case first =>
        go_region_held3 (fun w' => w'.cell? ⟨w.heap.size + 1, 0, none⟩ = some (.int .i64 x) ∧ w'.cell? ⟨w.heap.size + 1, 1, none⟩ = some (.int .i64 (m : Int)) ∧ w'.cell? ⟨w.heap.size + 1, 2, none⟩ = some (.int .i64 many) ∧ w'.cell? ⟨w.heap.size + 1, 3, none⟩ = some (.bool true) ∧ w'.cell? ⟨b, off + m * 2, none⟩ = some (.int .i64 (p.A m)) ∧ w'.cell? ⟨b, off + m * 2 + 1, none⟩ = some (.int .i64 (p.B m)) ∧ w'.cell? ⟨w.heap.size, m, none⟩ = some (.int .i64 (F m)))
          ((refine keepS.out _ ?_; (repeat (first | exact Below.refl _ _ | refine Below.drew ?_ | refine push ?_ _ | refine setI ?_ (by omega) _ | refine after ?_ hb4 | refine after ?_ hb3))))
          (first | (go_at_call 195; refine (wayOf_any _ _ _ _ _).mono ?_; rintro e w3 ⟨rfl, hb3⟩; have s3 : W.heap.size ≤ w3.heap.size := (by have := hb3.size; first | omega | (simp at this; omega)); (first | (have hbx : w3.heap[W.heap.size]? = some (.cells #[.int .i64 0, .int .i64 0, .int .i64 0, .bool false] 174 (0, 0)) := blk_below (heap_alloc_new W.drew (.cells #[.int .i64 0, .int .i64 0, .int .i64 0, .bool false] 174)) hb3) | skip)) | (go_at_call 227; refine (roomInW_any _ _ _ _ _).mono ?_; rintro e w4 ⟨rfl, hb4⟩; (first | (have hby : w4.heap[W.heap.size]? = some (.cells #[.int .i64 0, .int .i64 0, .int .i64 0, .bool false] 174 (0, 0)) := blk_below hbx hb4; have y0 := blk_cell hby 0 _ rfl; have y1 := blk_cell hby 1 _ rfl; have y2 := blk_cell hby 2 _ rfl; have y3 := blk_cell hby 3 _ rfl; have f0 := blk_free hby 0; have f1 := blk_free hby 1; have f2 := blk_free hby 2; have f3 := blk_free hby 3) | (have hby := blk_below (heap_alloc_new w3 (.cells #[.int .i64 0, .int .i64 0, .int .i64 0, .bool false] 174)) hb4; have y0 := blk_cell hby 0 _ rfl; have y1 := blk_cell hby 1 _ rfl; have y2 := blk_cell hby 2 _ rfl; have y3 := blk_cell hby 3 _ rfl; have f0 := blk_free hby 0; have f1 := blk_free hby 1; have f2 := blk_free hby 2; have f3 := blk_free hby 3) | (have hby := blk_below (heap_alloc_new w3.drew (.cells #[.int .i64 0, .int .i64 0, .int .i64 0, .bool false] 174)) hb4; have y0 := blk_cell hby 0 _ rfl; have y1 := blk_cell hby 1 _ rfl; have y2 := blk_cell hby 2 _ rfl; have y3 := blk_cell hby 3 _ rfl; have f0 := blk_free hby 0; have f1 := blk_free hby 1; have f2 := blk_free hby 2; have f3 := blk_free hby 3) | skip)))
        all_goals
          go_wp2
          go_meet
          exact ⟨_, rfl, rfl, (by first | exact blk_cell (heap_alloc_new w4 _) 2 _ rfl | exact blk_cell (blk_set (blk_set (blk_set (blk_set hby 0 _) 1 _) 2 _) 3 _) 2 _ rfl), (by (repeat (first | exact Below.refl _ _ | refine Below.drew ?_ | refine push ?_ _ | refine setI ?_ (by omega) _ | refine after ?_ hb4 | refine after ?_ hb3)))⟩
      case rest =>
      obtain ⟨B, rfl, rfl, hc2, hbW⟩ := hcut
      have hd2 := (keepS.out _ hbW).2.2.1
      by_cases g5 : F m = p.B m
      · have e5 : decide (F m = p.B m) = true := decide_eq_true g5
        have H5 : Hid (F m = p.B m) := g5
        clear g5
        by_cases g6 : many = p.B m
        · have e6 : (p.B m == many) = true := by simpa using g6.symm
          have H6 : Hid (many = p.B m) := g6
          clear g6
          go_wp2
          go_ret
          exact ⟨says_yes ⟨by rw [HL.out]; exact H3.out, fun _ => ⟨H5.out, H6.out⟩, fun h => (by cases h)⟩, after HB0.out hbW⟩
        · have e6 : (p.B m == many) = false := by simp; exact fun h => g6 h.symm
          have H6 : Hid (¬ many = p.B m) := g6
          clear g6
          go_wp2
          go_ret
          exact ⟨says_no (fun h => H6.out (h.2.1 rfl).2), after HB0.out hbW⟩
      · have e5 : decide (F m = p.B m) = false := decide_eq_false g5
        have H5 : Hid (¬ F m = p.B m) := g5
        clear g5
        go_wp2
        go_ret
        exact ⟨says_no (fun h => H5.out (h.2.1 rfl).1), after HB0.out hbW⟩
  · have e3 : decide (In cab 0 ((n : Int) - 1)) = false := decide_eq_false h3
    have H3 : Hid (¬ In cab 0 ((n : Int) - 1)) := h3
    clear h3
    go_wp2_with (first | (go_at_call 87; refine (within_is _ _ _ _).mono ?_; rintro e w' ⟨rfl, hw'⟩; have hw' := hw'.symm; subst hw'))
    go_ret
    exact ⟨says_no (fun h => H3.out (by have := h.1; rw [HL.out] at this; exact this)), hb0⟩

end Go.Proofs.Ytaalhmaacaahhaa
