/-
  OWN TEXT: StandsI, FreeR, CloneI, RoomsI.
-/
import Derived.Deep.DrawnRows
import Derived.Test.YtlelckbeoclhbaaGreatRows
import Derived.Deep.LoopGhost
import Derived.Lib.SliceRun
import Derived.Test.YtlelckbeoclhbaaGreatB24
import Derived.Test.YtlelckbeoclhbaaGreatB07
import Derived.Test.YtlelckbeoclhbaaGreatB22
import Derived.Test.YtlelckbeoclhbaaGreatB18
import Derived.Test.YtlelckbeoclhbaaGreatB02
set_option maxHeartbeats 12800000
set_option maxRecDepth 100000
namespace Go.Proofs.YtlelckbeoclhbaaGreat
open Go.RowKit
attribute [local go_sem ↓] Go.wp_at_zero Go.wp_at_succ
theorem setI {W w : World} {b i : Nat} (h : Below W.heap.size W w) (hb : W.heap.size ≤ b) (u : Value) : Below W.heap.size W (w.setCell ⟨b, i, none⟩ u) := h.setCell hb u
def six (F : Nat → Int) : Value := .agg #[.int .i64 (F 0), .int .i64 (F 1), .int .i64 (F 2), .int .i64 (F 3), .int .i64 (F 4), .int .i64 (F 5)]
theorem standsIn_any (ao : Option Addr) (n c : Nat) (p : Pairs) (F : Nat → Int) (x cab many : Int) (all : Bool) (w : World) (hl : p.n = n) (hg : GoodC p) (hz : PairsAt w ao p) :
    Calls Tryz.prog 168 #[.slice ao n c, .agg #[.int .i64 (F 0), .int .i64 (F 1), .int .i64 (F 2), .int .i64 (F 3), .int .i64 (F 4), .int .i64 (F 5)], .agg #[.int .i64 x, .int .i64 cab, .int .i64 many, .bool all]] w fun e w' => SaysIf (Stands p F ⟨x, cab, many, all⟩) e ∧ Below w.heap.size w w' := by
  have HL : Hid (p.n = n) := hl
  have HG : Hid (GoodC p) := hg
  have hn6 : n ≤ 6 := by rw [← hl]; exact hg.1
  clear hl hg
  have hmf : ∀ (fn : Fn) (first cap : Array Value) (w : World), (Instr.makeFunc fn first cap).run Tryz.prog w = .ok (.func fn first cap) w := fun _ _ _ _ => rfl
  have k1 := nilB
  have k2 := nilW
  have k3 := methB
  have k4 := methW
  go_enter Tryz.func168, Tryz.ntmps168
  go_upto_region 1 with fail
  have b0 : ((w.alloc (.cells #[.int .i64 (F 0), .int .i64 (F 1), .int .i64 (F 2), .int .i64 (F 3), .int .i64 (F 4), .int .i64 (F 5)] 208)).alloc (.cells #[.int .i64 x, .int .i64 cab, .int .i64 many, .bool all] 120)).heap[w.heap.size]? = some (.cells #[.int .i64 (F 0), .int .i64 (F 1), .int .i64 (F 2), .int .i64 (F 3), .int .i64 (F 4), .int .i64 (F 5)] 208 (0, 0)) := blk_alloc (heap_alloc_new w _) _
  have b1 : ((w.alloc (.cells #[.int .i64 (F 0), .int .i64 (F 1), .int .i64 (F 2), .int .i64 (F 3), .int .i64 (F 4), .int .i64 (F 5)] 208)).alloc (.cells #[.int .i64 x, .int .i64 cab, .int .i64 many, .bool all] 120)).heap[w.heap.size + 1]? = some (.cells #[.int .i64 x, .int .i64 cab, .int .i64 many, .bool all] 120 (0, 0)) := by simpa using heap_alloc_new (w.alloc _) _
  have hb0 : Below w.heap.size w ((w.alloc (.cells #[.int .i64 (F 0), .int .i64 (F 1), .int .i64 (F 2), .int .i64 (F 3), .int .i64 (F 4), .int .i64 (F 5)] 208)).alloc (.cells #[.int .i64 x, .int .i64 cab, .int .i64 many, .bool all] 120)) := push (push (Below.refl _ _) _) _
  generalize (w.alloc (.cells #[.int .i64 (F 0), .int .i64 (F 1), .int .i64 (F 2), .int .i64 (F 3), .int .i64 (F 4), .int .i64 (F 5)] 208)).alloc (.cells #[.int .i64 x, .int .i64 cab, .int .i64 many, .bool all] 120) = W at b0 b1 hb0 ⊢
  have hwr : IntKind.i64.wrap ((n : Int) - 1) = (n : Int) - 1 := by rw [IntKind.wrap_i64]; omega
  have z1 := blk_cell b1 1 _ rfl
  by_cases h3 : In cab 0 ((n : Int) - 1)
  · have e3 : decide (In cab 0 ((n : Int) - 1)) = true := decide_eq_true h3
    have H3 : Hid (In cab 0 ((n : Int) - 1)) := h3
    obtain ⟨m, rfl⟩ : ∃ m : Nat, cab = m := ⟨cab.toNat, by unfold In at h3; omega⟩
    have hm : m < n := by unfold In at h3; omega
    clear h3
    obtain ⟨b, off, rfl, g1, g2⟩ := hz m (by rw [HL.out]; exact hm)
    have hb := World.block_lt_of_cell? w _ g1
    have i1 : (0 : Int) ≤ (m : Int) := by omega
    have i2 : (m : Int) < (n : Int) := by omega
    have i3 : (m : Int) < 6 := by omega
    have i4 : m < 6 := by omega
    have HB0 : Hid (Below w.heap.size w W) := hb0
    have keepS : Hid (∀ w', Below W.heap.size W w' → (w'.cell? ⟨w.heap.size + 1, 0, none⟩ = some (.int .i64 x) ∧ w'.cell? ⟨w.heap.size + 1, 1, none⟩ = some (.int .i64 (m : Int)) ∧ w'.cell? ⟨w.heap.size + 1, 2, none⟩ = some (.int .i64 many) ∧ w'.cell? ⟨w.heap.size + 1, 3, none⟩ = some (.bool all) ∧ w'.cell? ⟨b, off + m * 2, none⟩ = some (.int .i64 (p.A m)) ∧ w'.cell? ⟨b, off + m * 2 + 1, none⟩ = some (.int .i64 (p.B m)) ∧ w'.cell? ⟨w.heap.size, m, none⟩ = some (.int .i64 (F m)))) := fun w' h => by
      have r1 := blk_below b1 h
      have r0 := blk_below b0 h
      refine ⟨blk_cell r1 0 _ rfl, blk_cell r1 1 _ rfl, blk_cell r1 2 _ rfl, blk_cell r1 3 _ rfl, ((after hb0 h).cell (p := ⟨b, off + m * 2, none⟩) hb).trans g1, ((after hb0 h).cell (p := ⟨b, off + m * 2 + 1, none⟩) hb).trans g2, ?_⟩
      have : m = 0 ∨ m = 1 ∨ m = 2 ∨ m = 3 ∨ m = 4 ∨ m = 5 := by omega
      rcases this with rfl | rfl | rfl | rfl | rfl | rfl
      · exact blk_cell r0 0 _ rfl
      · exact blk_cell r0 1 _ rfl
      · exact blk_cell r0 2 _ rfl
      · exact blk_cell r0 3 _ rfl
      · exact blk_cell r0 4 _ rfl
      · exact blk_cell r0 5 _ rfl
    have hs1 : w.heap.size + 1 < W.heap.size := blk_lt b1
    clear g1 g2 b0 b1 hb0 hz
    cases all with
    | false =>
      go_upto_region 3 with (first | (go_at_call 143; refine (within_is _ _ _ _).mono ?_; rintro e w' ⟨rfl, hw'⟩; have hw' := hw'.symm; subst hw'))
      go_cut [7, 8] (fun s7 s8 wc => ∃ B, s7 = .pointer (some ⟨B, 0, none⟩) ∧ s8 = .bool (decide (In many 1 (F m))) ∧ wc.cell? ⟨B, 2, none⟩ = some (.int .i64 many) ∧ Below W.heap.size W wc)
      case first =>
        go_region_held3 (fun w' => w'.cell? ⟨w.heap.size + 1, 0, none⟩ = some (.int .i64 x) ∧ w'.cell? ⟨w.heap.size + 1, 1, none⟩ = some (.int .i64 (m : Int)) ∧ w'.cell? ⟨w.heap.size + 1, 2, none⟩ = some (.int .i64 many) ∧ w'.cell? ⟨w.heap.size + 1, 3, none⟩ = some (.bool false) ∧ w'.cell? ⟨b, off + m * 2, none⟩ = some (.int .i64 (p.A m)) ∧ w'.cell? ⟨b, off + m * 2 + 1, none⟩ = some (.int .i64 (p.B m)) ∧ w'.cell? ⟨w.heap.size, m, none⟩ = some (.int .i64 (F m)))
          ((refine keepS.out _ ?_; (repeat (first | exact Below.refl _ _ | refine Below.drew ?_ | refine push ?_ _ | refine setI ?_ (by omega) _ | refine after ?_ hb4 | refine after ?_ hb3))))
          (first | (go_at_call 178; refine (wayOf_any _ _ _ _ _).mono ?_; rintro e w3 ⟨rfl, hb3⟩; have s3 : W.heap.size ≤ w3.heap.size := (by have := hb3.size; first | omega | (simp at this; omega)); (first | (have hbx : w3.heap[W.heap.size]? = some (.cells #[.int .i64 0, .int .i64 0, .int .i64 0, .bool false] 120 (0, 0)) := blk_below (heap_alloc_new W.drew (.cells #[.int .i64 0, .int .i64 0, .int .i64 0, .bool false] 120)) hb3) | skip)) | (go_at_call 200; refine (roomInB_any _ _ _ _ _).mono ?_; rintro e w4 ⟨rfl, hb4⟩; (first | (have hby : w4.heap[W.heap.size]? = some (.cells #[.int .i64 0, .int .i64 0, .int .i64 0, .bool false] 120 (0, 0)) := blk_below hbx hb4; have y0 := blk_cell hby 0 _ rfl; have y1 := blk_cell hby 1 _ rfl; have y2 := blk_cell hby 2 _ rfl; have y3 := blk_cell hby 3 _ rfl; have f0 := blk_free hby 0; have f1 := blk_free hby 1; have f2 := blk_free hby 2; have f3 := blk_free hby 3) | (have hby := blk_below (heap_alloc_new w3 (.cells #[.int .i64 0, .int .i64 0, .int .i64 0, .bool false] 120)) hb4; have y0 := blk_cell hby 0 _ rfl; have y1 := blk_cell hby 1 _ rfl; have y2 := blk_cell hby 2 _ rfl; have y3 := blk_cell hby 3 _ rfl; have f0 := blk_free hby 0; have f1 := blk_free hby 1; have f2 := blk_free hby 2; have f3 := blk_free hby 3) | (have hby := blk_below (heap_alloc_new w3.drew (.cells #[.int .i64 0, .int .i64 0, .int .i64 0, .bool false] 120)) hb4; have y0 := blk_cell hby 0 _ rfl; have y1 := blk_cell hby 1 _ rfl; have y2 := blk_cell hby 2 _ rfl; have y3 := blk_cell hby 3 _ rfl; have f0 := blk_free hby 0; have f1 := blk_free hby 1; have f2 := blk_free hby 2; have f3 := blk_free hby 3) | skip)))
        all_goals
          go_wp2
          go_meet
          exact ⟨_, rfl, rfl, (by first | exact blk_cell (heap_alloc_new w4 _) 2 _ rfl | exact blk_cell (blk_set (blk_set (blk_set (blk_set hby 0 _) 1 _) 2 _) 3 _) 2 _ rfl), (by (repeat (first | exact Below.refl _ _ | refine Below.drew ?_ | refine push ?_ _ | refine setI ?_ (by omega) _ | refine after ?_ hb4 | refine after ?_ hb3)))⟩
      case rest =>
      obtain ⟨B, rfl, rfl, hc2, hbW⟩ := hcut
      have hd2 := (keepS.out _ hbW).2.2.1
      by_cases g5 : In many 1 (F m)
      · have e5 : decide (In many 1 (F m)) = true := decide_eq_true g5
        have H5 : Hid (In many 1 (F m)) := g5
        clear g5
        go_wp2
        go_ret
        exact ⟨says_yes ⟨by rw [HL.out]; exact H3.out, fun h => (by cases h), fun _ => H5.out⟩, after HB0.out hbW⟩
      · have e5 : decide (In many 1 (F m)) = false := decide_eq_false g5
        have H5 : Hid (¬ In many 1 (F m)) := g5
        clear g5
        go_wp2
        go_ret
        exact ⟨says_no (fun h => H5.out (h.2.2 rfl)), after HB0.out hbW⟩
    | true =>
      have hB0 : (0 : Int) ≤ p.B m := by have := (HG.out.2 m (by rw [HL.out]; exact hm)).2; unfold In at this; omega
      go_upto_region 3 with (first | (go_at_call 143; refine (within_is _ _ _ _).mono ?_; rintro e w' ⟨rfl, hw'⟩; have hw' := hw'.symm; subst hw'))
      go_cut [7, 8] (fun s7 s8 wc => ∃ B, s7 = .pointer (some ⟨B, 0, none⟩) ∧ s8 = .bool (decide (F m = p.B m)) ∧ wc.cell? ⟨B, 2, none⟩ = some (.int .i64 (p.B m)) ∧ Below W.heap.size W wc)
      case first =>
        go_region_held3 (fun w' => w'.cell? ⟨w.heap.size + 1, 0, none⟩ = some (.int .i64 x) ∧ w'.cell? ⟨w.heap.size + 1, 1, none⟩ = some (.int .i64 (m : Int)) ∧ w'.cell? ⟨w.heap.size + 1, 2, none⟩ = some (.int .i64 many) ∧ w'.cell? ⟨w.heap.size + 1, 3, none⟩ = some (.bool true) ∧ w'.cell? ⟨b, off + m * 2, none⟩ = some (.int .i64 (p.A m)) ∧ w'.cell? ⟨b, off + m * 2 + 1, none⟩ = some (.int .i64 (p.B m)) ∧ w'.cell? ⟨w.heap.size, m, none⟩ = some (.int .i64 (F m)))
          ((refine keepS.out _ ?_; (repeat (first | exact Below.refl _ _ | refine Below.drew ?_ | refine push ?_ _ | refine setI ?_ (by omega) _ | refine after ?_ hb4 | refine after ?_ hb3))))
          (first | (go_at_call 178; refine (wayOf_any _ _ _ _ _).mono ?_; rintro e w3 ⟨rfl, hb3⟩; have s3 : W.heap.size ≤ w3.heap.size := (by have := hb3.size; first | omega | (simp at this; omega)); (first | (have hbx : w3.heap[W.heap.size]? = some (.cells #[.int .i64 0, .int .i64 0, .int .i64 0, .bool false] 120 (0, 0)) := blk_below (heap_alloc_new W.drew (.cells #[.int .i64 0, .int .i64 0, .int .i64 0, .bool false] 120)) hb3) | skip)) | (go_at_call 199; refine (roomInW_any _ _ _ _ _).mono ?_; rintro e w4 ⟨rfl, hb4⟩; (first | (have hby : w4.heap[W.heap.size]? = some (.cells #[.int .i64 0, .int .i64 0, .int .i64 0, .bool false] 120 (0, 0)) := blk_below hbx hb4; have y0 := blk_cell hby 0 _ rfl; have y1 := blk_cell hby 1 _ rfl; have y2 := blk_cell hby 2 _ rfl; have y3 := blk_cell hby 3 _ rfl; have f0 := blk_free hby 0; have f1 := blk_free hby 1; have f2 := blk_free hby 2; have f3 := blk_free hby 3) | (have hby := blk_below (heap_alloc_new w3 (.cells #[.int .i64 0, .int .i64 0, .int .i64 0, .bool false] 120)) hb4; have y0 := blk_cell hby 0 _ rfl; have y1 := blk_cell hby 1 _ rfl; have y2 := blk_cell hby 2 _ rfl; have y3 := blk_cell hby 3 _ rfl; have f0 := blk_free hby 0; have f1 := blk_free hby 1; have f2 := blk_free hby 2; have f3 := blk_free hby 3) | (have hby := blk_below (heap_alloc_new w3.drew (.cells #[.int .i64 0, .int .i64 0, .int .i64 0, .bool false] 120)) hb4; have y0 := blk_cell hby 0 _ rfl; have y1 := blk_cell hby 1 _ rfl; have y2 := blk_cell hby 2 _ rfl; have y3 := blk_cell hby 3 _ rfl; have f0 := blk_free hby 0; have f1 := blk_free hby 1; have f2 := blk_free hby 2; have f3 := blk_free hby 3) | skip)))
        all_goals
          go_wp2
          go_meet
          exact ⟨_, rfl, rfl, (by first | exact blk_cell (heap_alloc_new w4 _) 2 _ rfl | exact blk_cell (blk_set (blk_set (blk_set (blk_set hby 0 _) 1 _) 2 _) 3 _) 2 _ rfl), (by (repeat (first | exact Below.refl _ _ | refine Below.drew ?_ | refine push ?_ _ | refine setI ?_ (by omega) _ | refine after ?_ hb4 | refine after ?_ hb3)))⟩
      case rest =>
      obtain ⟨B, rfl, rfl, hc2, hbW⟩ := hcut
      have hd2 := (keepS.out _ hbW).2.2.1
      by_cases g5 : F m = p.B m
      · have e5 : decide (F m = p.B m) = true := decide_eq_true g5
        have H5 : Hid (F m = p.B m) := g5
        clear g5
        by_cases g6 : many = p.B m
        · have e6 : (p.B m == many) = true := by simpa using g6.symm
          have H6 : Hid (many = p.B m) := g6
          clear g6
          go_wp2
          go_ret
          exact ⟨says_yes ⟨by rw [HL.out]; exact H3.out, fun _ => ⟨H5.out, H6.out⟩, fun h => (by cases h)⟩, after HB0.out hbW⟩
        · have e6 : (p.B m == many) = false := by simp; exact fun h => g6 h.symm
          have H6 : Hid (¬ many = p.B m) := g6
          clear g6
          go_wp2
          go_ret
          exact ⟨says_no (fun h => H6.out (h.2.1 rfl).2), after HB0.out hbW⟩
      · have e5 : decide (F m = p.B m) = false := decide_eq_false g5
        have H5 : Hid (¬ F m = p.B m) := g5
        clear g5
        go_wp2
        go_ret
        exact ⟨says_no (fun h => H5.out (h.2.1 rfl).1), after HB0.out hbW⟩
  · have e3 : decide (In cab 0 ((n : Int) - 1)) = false := decide_eq_false h3
    have H3 : Hid (¬ In cab 0 ((n : Int) - 1)) := h3
    clear h3
    go_wp2_with (first | (go_at_call 143; refine (within_is _ _ _ _).mono ?_; rintro e w' ⟨rfl, hw'⟩; have hw' := hw'.symm; subst hw'))
    go_ret
    exact ⟨says_no (fun h => H3.out (by have := h.1; rw [HL.out] at this; exact this)), hb0⟩
end Go.Proofs.YtlelckbeoclhbaaGreat

namespace Go.Proofs.YtlelckbeoclhbaaGreat
open Go.RowKit
def FreeRAns (p : Pairs) (n : Nat) (S : Nat → Room) (e : Ending) : Prop :=
  (RoomsI p n S ∧ e = .returned (.tuple #[six (freeR p S n), .bool true])) ∨ (¬ RoomsI p n S ∧ e = .returned (.tuple #[six (fun _ => 0), .bool false]))
theorem six_set {w : World} {g t : Nat} {u0 u1 u2 u3 u4 u5 : Value} (h : w.heap[g]? = some (.cells #[u0, u1, u2, u3, u4, u5] t (0, 0))) (v0 v1 v2 v3 v4 v5 : Value) :
    ((((((w.setCell ⟨g, 0, none⟩ v0).setCell ⟨g, 1, none⟩ v1).setCell ⟨g, 2, none⟩ v2).setCell ⟨g, 3, none⟩ v3).setCell ⟨g, 4, none⟩ v4).setCell ⟨g, 5, none⟩ v5).heap[g]? = some (.cells #[v0, v1, v2, v3, v4, v5] t (0, 0)) := by
  have := blk_set (blk_set (blk_set (blk_set (blk_set (blk_set h 0 v0) 1 v1) 2 v2) 3 v3) 4 v4) 5 v5
  simpa using this
theorem six_below {w w' : World} {g : Nat} (h : Below w.heap.size w w') (hg : w.heap.size ≤ g) (v0 v1 v2 v3 v4 v5 : Value) : Below w.heap.size w ((((((w'.setCell ⟨g, 0, none⟩ v0).setCell ⟨g, 1, none⟩ v1).setCell ⟨g, 2, none⟩ v2).setCell ⟨g, 3, none⟩ v3).setCell ⟨g, 4, none⟩ v4).setCell ⟨g, 5, none⟩ v5) :=
  (((((h.setCell hg _).setCell hg _).setCell hg _).setCell hg _).setCell hg _).setCell hg _
theorem zero_row6 {w : World} {g t : Nat} (h : w.heap[g]? = some (.cells #[.int .i64 0, .int .i64 0, .int .i64 0, .int .i64 0, .int .i64 0, .int .i64 0] t (0, 0))) : w.rowIs g t 6 (fun k => .int .i64 (upto 0 (fun _ => (0 : Int)) 0 k)) := by
  refine ⟨_, h, rfl, fun i hi => ?_⟩
  have : i = 0 ∨ i = 1 ∨ i = 2 ∨ i = 3 ∨ i = 4 ∨ i = 5 := by omega
  rcases this with rfl | rfl | rfl | rfl | rfl | rfl <;> rfl
theorem freeInCabins_any (ao bo : Option Addr) (m mc n c : Nat) (p : Pairs) (S : Nat → Room) (w : World) (hl : p.n = m) (hm : m ≤ 1048576) (hn : n ≤ 1048576) (hc : n ≤ c) (hx : PairsAt w ao p) (hz : RoomsAt w bo n S) :
    Calls Tryz.prog 145 #[.slice ao m mc, .slice bo n c] w fun e w' => FreeRAns p n S e ∧ Below w.heap.size w w' := by
  have HL : Hid (p.n = m) := hl
  have HX : Hid (PairsAt w ao p) := hx
  have HZ : Hid (RoomsAt w bo n S) := hz
  clear hl hx hz
  have hb0 : Below w.heap.size w (w.alloc (.cells #[.int .i64 0, .int .i64 0, .int .i64 0, .int .i64 0, .int .i64 0, .int .i64 0] 208)) := push (Below.refl _ _) _
  have r0 : (w.alloc (.cells #[.int .i64 0, .int .i64 0, .int .i64 0, .int .i64 0, .int .i64 0, .int .i64 0] 208)).heap[w.heap.size]? = some (.cells #[.int .i64 0, .int .i64 0, .int .i64 0, .int .i64 0, .int .i64 0, .int .i64 0] 208 (0, 0)) := heap_alloc_new w _
  go_enter Tryz.func145, Tryz.ntmps145
  go_wp2_with fail
  refine (goodCabins_any ao m mc p _ HL.out hm (HX.out.below hb0)).mono ?_
  rintro e w1 ⟨⟨q, rfl, hq⟩, hb1⟩
  have bw1 := after hb0 hb1
  have r1 := blk_below r0 hb1
  clear hb0 r0 hb1
  cases q with
  | false =>
    have HG : Hid (¬ GoodC p) := fun h => by have := hq.2 h; cases this
    clear hq
    have o0 := blk_cell r1 0 _ rfl
    have o1 := blk_cell r1 1 _ rfl
    have o2 := blk_cell r1 2 _ rfl
    have o3 := blk_cell r1 3 _ rfl
    have o4 := blk_cell r1 4 _ rfl
    have o5 := blk_cell r1 5 _ rfl
    have f0 := blk_free r1 0
    have f1 := blk_free r1 1
    have f2 := blk_free r1 2
    have f3 := blk_free r1 3
    have f4 := blk_free r1 4
    have f5 := blk_free r1 5
    go_wp2
    have rF := six_set r1 (.int .i64 0) (.int .i64 0) (.int .i64 0) (.int .i64 0) (.int .i64 0) (.int .i64 0)
    have q0 := blk_cell rF 0 _ rfl
    have q1 := blk_cell rF 1 _ rfl
    have q2 := blk_cell rF 2 _ rfl
    have q3 := blk_cell rF 3 _ rfl
    have q4 := blk_cell rF 4 _ rfl
    have q5 := blk_cell rF 5 _ rfl
    exact bodyPost_ret (v := .tuple #[six (fun _ => 0), .bool false]) (by simp [results, Tryz.results145, go_sem, q0, q1, q2, q3, q4, q5, six]) rfl ⟨.inr ⟨fun h => HG.out h.1, rfl⟩, six_below bw1 (Nat.le_refl _) _ _ _ _ _ _⟩
  | true =>
    have HG : Hid (GoodC p) := hq.1 rfl
    have hm4 : m ≤ 6 := by rw [← HL.out]; exact HG.out.1
    clear hq
    by_cases h60 : n ≤ 60
    · have d0 : decide (60 < n) = false := by simp; omega
      go_upto_region 4 with fail
      have r2 := blk_alloc r1 (.cells #[.int .i64 0, .int .i64 0, .int .i64 0, .int .i64 0, .int .i64 0, .int .i64 0] 208)
      have x2 := zero_row6 (heap_alloc_new w1 (.cells #[.int .i64 0, .int .i64 0, .int .i64 0, .int .i64 0, .int .i64 0, .int .i64 0] 208))
      have bw2 := push bw1 (.cells #[.int .i64 0, .int .i64 0, .int .i64 0, .int .i64 0, .int .i64 0, .int .i64 0] 208)
      have hf : w.heap.size < w1.heap.size := blk_lt r1
      generalize w1.alloc (.cells #[.int .i64 0, .int .i64 0, .int .i64 0, .int .i64 0, .int .i64 0, .int .i64 0] 208) = w2 at r2 x2 bw2 ⊢
      generalize w1.heap.size = f at hf x2 ⊢
      clear r1 bw1
      go_wp2
      go_loopw [7, 8, 22] (fun _ _ i wr => ∃ k : Nat, k ≤ m ∧ i = .int .i64 k ∧ wr.rowIs f 208 6 (fun j => .int .i64 (upto k p.B 0 j)) ∧ wr.heap[w.heap.size]? = some (.cells #[.int .i64 0, .int .i64 0, .int .i64 0, .int .i64 0, .int .i64 0, .int .i64 0] 208 (0, 0)) ∧ Below w.heap.size w wr) (fun _ _ i _ => m - (intOf i).toNat)
      case atStart => exact ⟨0, Nat.zero_le _, rfl, x2.congr (fun j _ => by unfold upto; rw [if_neg (Nat.not_lt_zero _), if_neg (Nat.not_lt_zero _)]), r2, bw2⟩
      case round =>
        obtain ⟨k, hk, rfl, hrow, hr, hbel⟩ := hrel
        clear r2 x2 bw2
        by_cases hlt : k < m
        · obtain ⟨b, off, rfl, h1, h2⟩ := HX.out k (by rw [HL.out]; exact hlt)
          have hb := World.block_lt_of_cell? w _ h1
          have c1 := (hbel.cell (p := ⟨b, off + k * 2, none⟩) hb).trans h1
          have c2 := (hbel.cell (p := ⟨b, off + k * 2 + 1, none⟩) hb).trans h2
          have i1 : (0 : Int) ≤ (k : Int) := by omega
          have i2 : (k : Int) < 6 := by omega
          have hrp := row_below hrow (push (Below.refl _ wr) (.cells #[.int .i64 (p.A k), .int .i64 (p.B k)] 124))
          have hrr := blk_alloc hr (.cells #[.int .i64 (p.A k), .int .i64 (p.B k)] 124)
          have hcb := heap_alloc_new wr (.cells #[.int .i64 (p.A k), .int .i64 (p.B k)] 124)
          have hbp := push hbel (.cells #[.int .i64 (p.A k), .int .i64 (p.B k)] 124)
          clear h1 h2
          go_upto_region 7 with fail
          generalize hW : wr.alloc (.cells #[.int .i64 (p.A k), .int .i64 (p.B k)] 124) = W at hrp hrr hcb hbp ⊢
          clear hW
          have o0 := hrp.cell (i := k) (by omega)
          have f0 := hrp.frozen k
          have z1 := blk_cell hcb 1 _ rfl
          have HRP : Hid (W.rowIs f 208 6 (fun j => .int .i64 (upto k p.B 0 j))) := hrp
          have HRR : Hid (W.heap[w.heap.size]? = some (.cells #[.int .i64 0, .int .i64 0, .int .i64 0, .int .i64 0, .int .i64 0, .int .i64 0] 208 (0, 0))) := hrr
          have HBP : Hid (Below w.heap.size w W) := hbp
          clear hrp hrr hcb hbp hrow hr hbel c1 c2
          go_wp2
          go_roundw
          case rel => exact ⟨k + 1, by omega, by go_num, (HRP.out.set k _).congr (fun j _ => by
            by_cases e : j = k
            · subst e; rw [if_pos rfl, upto_lt _ _ (Nat.lt_succ_self _)]
            · rw [if_neg e, upto_step _ _ _ _ e]), blk_set_other HRR.out _ _ (by omega), HBP.out.setCell (by show w.heap.size ≤ f; omega) _⟩
          case measure => simp [intOf]; omega
        · obtain rfl : k = m := by omega
          have hrow' : wr.rowIs f 208 6 (fun j => .int .i64 (freeR p S 0 j)) := hrow.congr (fun j _ => by rw [freeR_0, HL.out])
          clear hrow
          go_wp2
          go_loopw [9, 10, 34] (fun _ _ i wr => ∃ k : Nat, k ≤ n ∧ i = .int .i64 k ∧ (∀ j, j < k → In (S j).who 1 9999 ∧ ¬ Has (whoR S) j (S j).who ∧ Stands p (leftR p S j) (S j)) ∧ wr.rowIs f 208 6 (fun j => .int .i64 (freeR p S k j)) ∧ wr.heap[w.heap.size]? = some (.cells #[.int .i64 0, .int .i64 0, .int .i64 0, .int .i64 0, .int .i64 0, .int .i64 0] 208 (0, 0)) ∧ Below w.heap.size w wr) (fun _ _ i _ => n - (intOf i).toNat)
          case atStart => exact ⟨0, Nat.zero_le _, rfl, fun j hj => by omega, hrow', hr, hbel⟩
          case round =>
            obtain ⟨i, hi, rfl, hall, hrow2, hr2, hbel2⟩ := hrel
            have HA : Hid (∀ j, j < i → In (S j).who 1 9999 ∧ ¬ Has (whoR S) j (S j).who ∧ Stands p (leftR p S j) (S j)) := hall
            clear hall hrow' hr hbel
            by_cases hlt2 : i < n
            · obtain ⟨b, off, rfl, h0, h1, h2, h3⟩ := HZ.out i hlt2
              have hb := World.block_lt_of_cell? w _ h0
              have c0 := (hbel2.cell (p := ⟨b, off + i * 4, none⟩) hb).trans h0
              have c1 := (hbel2.cell (p := ⟨b, off + i * 4 + 1, none⟩) hb).trans h1
              have c2 := (hbel2.cell (p := ⟨b, off + i * 4 + 2, none⟩) hb).trans h2
              have c3 := (hbel2.cell (p := ⟨b, off + i * 4 + 3, none⟩) hb).trans h3
              have hbox := heap_alloc_new wr (.cells #[.int .i64 (S i).who, .int .i64 (S i).cab, .int .i64 (S i).many, .bool (S i).all] 120)
              have hbx := push hbel2 (.cells #[.int .i64 (S i).who, .int .i64 (S i).cab, .int .i64 (S i).many, .bool (S i).all] 120)
              have hrx := blk_alloc hr2 (.cells #[.int .i64 (S i).who, .int .i64 (S i).cab, .int .i64 (S i).many, .bool (S i).all] 120)
              have hrw := row_below hrow2 (push (Below.refl _ wr) (.cells #[.int .i64 (S i).who, .int .i64 (S i).cab, .int .i64 (S i).many, .bool (S i).all] 120))
              clear h0 h1 h2 h3
              go_upto_region 12 with fail
              generalize hW : wr.alloc (.cells #[.int .i64 (S i).who, .int .i64 (S i).cab, .int .i64 (S i).many, .bool (S i).all] 120) = W at hbox hbx hrx hrw ⊢
              clear hW
              have hsW : wr.heap.size < W.heap.size := blk_lt hbox
              have hfW : f < W.heap.size := hrw.lt
              have HRW : Hid (W.rowIs f 208 6 (fun j => .int .i64 (freeR p S i j))) := hrw
              have z0 : ∀ g : Grown W, g.val.cell? ⟨wr.heap.size, 0, none⟩ = some (.int .i64 (S i).who) := fun g => (g.bel.cell hsW).trans (blk_cell hbox 0 _ rfl)
              have z1 : ∀ g : Grown W, g.val.cell? ⟨wr.heap.size, 1, none⟩ = some (.int .i64 (S i).cab) := fun g => (g.bel.cell hsW).trans (blk_cell hbox 1 _ rfl)
              have z2 : ∀ g : Grown W, g.val.cell? ⟨wr.heap.size, 2, none⟩ = some (.int .i64 (S i).many) := fun g => (g.bel.cell hsW).trans (blk_cell hbox 2 _ rfl)
              have z3 : ∀ g : Grown W, g.val.cell? ⟨wr.heap.size, 3, none⟩ = some (.bool (S i).all) := fun g => (g.bel.cell hsW).trans (blk_cell hbox 3 _ rfl)
              have y0 : ∀ g : Grown W, g.val.cell? ⟨f, 0, none⟩ = some (.int .i64 (freeR p S i 0)) := fun g => (g.bel.cell hfW).trans (hrw.cell (i := 0) (by omega))
              have y1 : ∀ g : Grown W, g.val.cell? ⟨f, 1, none⟩ = some (.int .i64 (freeR p S i 1)) := fun g => (g.bel.cell hfW).trans (hrw.cell (i := 1) (by omega))
              have y2 : ∀ g : Grown W, g.val.cell? ⟨f, 2, none⟩ = some (.int .i64 (freeR p S i 2)) := fun g => (g.bel.cell hfW).trans (hrw.cell (i := 2) (by omega))
              have y3 : ∀ g : Grown W, g.val.cell? ⟨f, 3, none⟩ = some (.int .i64 (freeR p S i 3)) := fun g => (g.bel.cell hfW).trans (hrw.cell (i := 3) (by omega))
              have y4 : ∀ g : Grown W, g.val.cell? ⟨f, 4, none⟩ = some (.int .i64 (freeR p S i 4)) := fun g => (g.bel.cell hfW).trans (hrw.cell (i := 4) (by omega))
              have y5 : ∀ g : Grown W, g.val.cell? ⟨f, 5, none⟩ = some (.int .i64 (freeR p S i 5)) := fun g => (g.bel.cell hfW).trans (hrw.cell (i := 5) (by omega))
              have i1 : (0 : Int) ≤ (i : Int) := by omega
              have i2 : (i : Int) ≤ (c : Int) := by omega
              clear c0 c1 c2 c3 hbox hrow2 hr2 hbel2 hrw
              by_cases g1 : In (S i).who 1 9999
              · have e1 : decide (In (S i).who 1 9999) = true := decide_eq_true g1
                have H1 : Hid (In (S i).who 1 9999) := g1
                clear g1
                by_cases hh : Has (whoR S) i (S i).who
                · have e2 : decide (0 ≤ ixAns (whoR S) (S i).who i) = true := decide_eq_true ((ixAns_has _ _ _).2 hh)
                  have HH : Hid (Has (whoR S) i (S i).who) := hh
                  clear hh
                  refine wp_region_grow (by kernel_rfl) (by kernel_rfl) ?_
                  repeat (first | go_big_quiet_skip | (go_big_quiet_want; go_big_quiet_op; first | go_big_quiet_on | (apply Exists.intro; refine ⟨fun g => ?_, ?_⟩; (focus (first | (go_at_call 146; refine grown_call (v := .bool true) ((isBy_is _ _).mono ?_); rintro e w4 ⟨rfl, rfl⟩; exact ⟨by rw [e1], Below.refl _ _⟩) | (go_at_call 125; refine grown_call (v := .int .i64 (ixAns (whoR S) (S i).who i)) ((roomOf_any _ i c S (S i).who _ (by omega) ((HZ.out.upto (by omega)).below (after hbx g.bel))).mono ?_); rintro e w4 ⟨rfl, hbb⟩; exact ⟨rfl, hbb⟩))); go_big_quiet_on)))
                  refine wpQuiet_nil ?_
                  rintro _ ⟨g, rfl⟩
                  have rg := blk_below hrx g.bel
                  have o0 := blk_cell rg 0 _ rfl
                  have o1 := blk_cell rg 1 _ rfl
                  have o2 := blk_cell rg 2 _ rfl
                  have o3 := blk_cell rg 3 _ rfl
                  have o4 := blk_cell rg 4 _ rfl
                  have o5 := blk_cell rg 5 _ rfl
                  have f0 := blk_free rg 0
                  have f1 := blk_free rg 1
                  have f2 := blk_free rg 2
                  have f3 := blk_free rg 3
                  have f4 := blk_free rg 4
                  have f5 := blk_free rg 5
                  go_wp2
                  have rF := six_set rg (.int .i64 0) (.int .i64 0) (.int .i64 0) (.int .i64 0) (.int .i64 0) (.int .i64 0)
                  have q0 := blk_cell rF 0 _ rfl
                  have q1 := blk_cell rF 1 _ rfl
                  have q2 := blk_cell rF 2 _ rfl
                  have q3 := blk_cell rF 3 _ rfl
                  have q4 := blk_cell rF 4 _ rfl
                  have q5 := blk_cell rF 5 _ rfl
                  exact bodyPost_ret (v := .tuple #[six (fun _ => 0), .bool false]) (by simp [results, Tryz.results145, go_sem, q0, q1, q2, q3, q4, q5, six]) rfl ⟨.inr ⟨fun h => (h.2.2 i hlt2).2.1 HH.out, rfl⟩, six_below (after hbx g.bel) (Nat.le_refl _) _ _ _ _ _ _⟩
                · have e2 : decide (0 ≤ ixAns (whoR S) (S i).who i) = false := decide_eq_false (fun h => hh ((ixAns_has _ _ _).1 h))
                  have HH : Hid (¬ Has (whoR S) i (S i).who) := hh
                  clear hh
                  by_cases hfit : Stands p (freeR p S i) (S i)
                  · have HF : Hid (Stands p (freeR p S i) (S i)) := hfit
                    clear hfit
                    refine wp_region_grow (by kernel_rfl) (by kernel_rfl) ?_
                    repeat (first | go_big_quiet_skip | (go_big_quiet_want; go_big_quiet_op; first | go_big_quiet_on | (apply Exists.intro; refine ⟨fun g => ?_, ?_⟩; (focus (first | (go_at_call 146; refine grown_call (v := .bool true) ((isBy_is _ _).mono ?_); rintro e w4 ⟨rfl, rfl⟩; exact ⟨by rw [e1], Below.refl _ _⟩) | (go_at_call 125; refine grown_call (v := .int .i64 (ixAns (whoR S) (S i).who i)) ((roomOf_any _ i c S (S i).who _ (by omega) ((HZ.out.upto (by omega)).below (after hbx g.bel))).mono ?_); rintro e w4 ⟨rfl, hbb⟩; exact ⟨rfl, hbb⟩) | (go_at_call 168; refine grown_call (v := .bool true) ((standsIn_any _ _ mc p (freeR p S i) (S i).who (S i).cab (S i).many (S i).all _ HL.out HG.out (HX.out.below (after hbx g.bel))).mono ?_); rintro e w4 ⟨⟨bb, rfl, hi⟩, hbb⟩; obtain rfl := hi.2 HF.out; exact ⟨rfl, hbb⟩))); go_big_quiet_on)))
                    refine wpQuiet_nil ?_
                    rintro _ ⟨g, rfl⟩
                    obtain ⟨l, hl⟩ : ∃ l : Nat, (S i).cab = l := ⟨(S i).cab.toNat, by have := HF.out.1; unfold In at this; omega⟩
                    have hlm : l < p.n := by have := HF.out.1; unfold In at this; omega
                    have HLN : Hid ((S i).cab = l) := hl
                    have l4 : l < 6 := by have := HL.out; omega
                    have v1 : g.val.cell? ⟨wr.heap.size, 1, none⟩ = some (.int .i64 (l : Int)) := by rw [z1 g, hl]
                    have v2 := z2 g
                    have rwg := row_below HRW.out g.bel
                    have v3 := rwg.cell (i := l) l4
                    have v4 := rwg.frozen l
                    have l1 : (0 : Int) ≤ (l : Int) := by omega
                    have l2 : (l : Int) < 6 := by omega
                    have hwr : IntKind.i64.wrap (freeR p S i l - (S i).many) = freeR p S i l - (S i).many := by
                      have st := rooms_steps (n := i + 1) HG.out (fun j hj => by
                        by_cases e : j = i
                        · subst e; exact stands_free.1 HF.out
                        · exact (HA.out j (by omega)).2.2)
                      have h1 := leftR_bounds HG.out (show i ≤ 60 by omega) (st i (by omega)).1 hlm
                      have h2 := (st (i + 1) (Nat.le_refl _)).1 i (by omega)
                      unfold In at h2
                      rw [freeR_lt hlm, IntKind.wrap_i64]; omega
                    have HRG : Hid (g.val.heap[w.heap.size]? = some (.cells #[.int .i64 0, .int .i64 0, .int .i64 0, .int .i64 0, .int .i64 0, .int .i64 0] 208 (0, 0))) := blk_below hrx g.bel
                    have HBG : Hid (Below w.heap.size w g.val) := after hbx g.bel
                    have HRO : Hid (g.val.rowIs f 208 6 (fun j => .int .i64 (freeR p S i j))) := rwg
                    clear hl rwg z0 z1 z2 z3 y0 y1 y2 y3 y4 y5 hrx hbx
                    generalize g.val = G at *
                    go_upto_region 14 with fail
                    have hrowF : Hid ((G.setCell ⟨f, l, none⟩ (.int .i64 (freeR p S i l - (S i).many))).drew.rowIs f 208 6 (fun j => .int .i64 (freeR p S (i + 1) j))) := by
                      refine (HRO.out.set l _).congr (fun j _ => ?_)
                      rw [← freeR_step p S i l j hlm HLN.out]
                      split <;> rfl
                    have hrF : Hid ((G.setCell ⟨f, l, none⟩ (.int .i64 (freeR p S i l - (S i).many))).drew.heap[w.heap.size]? = some (.cells #[.int .i64 0, .int .i64 0, .int .i64 0, .int .i64 0, .int .i64 0, .int .i64 0] 208 (0, 0))) := blk_drew (blk_set_other HRG.out _ _ (by omega))
                    have hbF : Hid (Below w.heap.size w (G.setCell ⟨f, l, none⟩ (.int .i64 (freeR p S i l - (S i).many))).drew) := (HBG.out.setCell (by show w.heap.size ≤ f; omega) _).drew
                    have HAN : Hid (∀ j, j < i + 1 → In (S j).who 1 9999 ∧ ¬ Has (whoR S) j (S j).who ∧ Stands p (leftR p S j) (S j)) := fun j hj => by
                      by_cases e : j = i
                      · subst e; exact ⟨H1.out, HH.out, stands_free.1 HF.out⟩
                      · exact HA.out j (by omega)
                    clear HH HF HA HLN HRG HBG HRO HRW
                    go_region
                    all_goals (go_wp2; go_roundw)
                    all_goals first | (exact ⟨i + 1, by omega, by go_num, HAN.out, hrowF.out, hrF.out, hbF.out⟩) | (simp [intOf]; omega)
                  · have HF : Hid (¬ Stands p (freeR p S i) (S i)) := hfit
                    clear hfit
                    refine wp_region_grow (by kernel_rfl) (by kernel_rfl) ?_
                    repeat (first | go_big_quiet_skip | (go_big_quiet_want; go_big_quiet_op; first | go_big_quiet_on | (apply Exists.intro; refine ⟨fun g => ?_, ?_⟩; (focus (first | (go_at_call 146; refine grown_call (v := .bool true) ((isBy_is _ _).mono ?_); rintro e w4 ⟨rfl, rfl⟩; exact ⟨by rw [e1], Below.refl _ _⟩) | (go_at_call 125; refine grown_call (v := .int .i64 (ixAns (whoR S) (S i).who i)) ((roomOf_any _ i c S (S i).who _ (by omega) ((HZ.out.upto (by omega)).below (after hbx g.bel))).mono ?_); rintro e w4 ⟨rfl, hbb⟩; exact ⟨rfl, hbb⟩) | (go_at_call 168; refine grown_call (v := .bool false) ((standsIn_any _ _ mc p (freeR p S i) (S i).who (S i).cab (S i).many (S i).all _ HL.out HG.out (HX.out.below (after hbx g.bel))).mono ?_); rintro e w4 ⟨⟨bb, rfl, hi⟩, hbb⟩; obtain rfl := Bool.eq_false_iff.2 (fun e => HF.out (hi.1 e)); exact ⟨rfl, hbb⟩))); go_big_quiet_on)))
                    refine wpQuiet_nil ?_
                    rintro _ ⟨g, rfl⟩
                    have rg := blk_below hrx g.bel
                    have o0 := blk_cell rg 0 _ rfl
                    have o1 := blk_cell rg 1 _ rfl
                    have o2 := blk_cell rg 2 _ rfl
                    have o3 := blk_cell rg 3 _ rfl
                    have o4 := blk_cell rg 4 _ rfl
                    have o5 := blk_cell rg 5 _ rfl
                    have f0 := blk_free rg 0
                    have f1 := blk_free rg 1
                    have f2 := blk_free rg 2
                    have f3 := blk_free rg 3
                    have f4 := blk_free rg 4
                    have f5 := blk_free rg 5
                    go_wp2
                    have rF := six_set rg (.int .i64 0) (.int .i64 0) (.int .i64 0) (.int .i64 0) (.int .i64 0) (.int .i64 0)
                    have q0 := blk_cell rF 0 _ rfl
                    have q1 := blk_cell rF 1 _ rfl
                    have q2 := blk_cell rF 2 _ rfl
                    have q3 := blk_cell rF 3 _ rfl
                    have q4 := blk_cell rF 4 _ rfl
                    have q5 := blk_cell rF 5 _ rfl
                    exact bodyPost_ret (v := .tuple #[six (fun _ => 0), .bool false]) (by simp [results, Tryz.results145, go_sem, q0, q1, q2, q3, q4, q5, six]) rfl ⟨.inr ⟨fun h => HF.out (stands_free.2 (h.2.2 i hlt2).2.2), rfl⟩, six_below (after hbx g.bel) (Nat.le_refl _) _ _ _ _ _ _⟩
              · have e1 : decide (In (S i).who 1 9999) = false := decide_eq_false g1
                have H1 : Hid (¬ In (S i).who 1 9999) := g1
                clear g1
                refine wp_region_grow (by kernel_rfl) (by kernel_rfl) ?_
                repeat (first | go_big_quiet_skip | (go_big_quiet_want; go_big_quiet_op; first | go_big_quiet_on | (apply Exists.intro; refine ⟨fun g => ?_, ?_⟩; (focus (first | (go_at_call 146; refine grown_call (v := .bool false) ((isBy_is _ _).mono ?_); rintro e w4 ⟨rfl, rfl⟩; exact ⟨by rw [e1], Below.refl _ _⟩))); go_big_quiet_on)))
                refine wpQuiet_nil ?_
                rintro _ ⟨g, rfl⟩
                have rg := blk_below hrx g.bel
                have o0 := blk_cell rg 0 _ rfl
                have o1 := blk_cell rg 1 _ rfl
                have o2 := blk_cell rg 2 _ rfl
                have o3 := blk_cell rg 3 _ rfl
                have o4 := blk_cell rg 4 _ rfl
                have o5 := blk_cell rg 5 _ rfl
                have f0 := blk_free rg 0
                have f1 := blk_free rg 1
                have f2 := blk_free rg 2
                have f3 := blk_free rg 3
                have f4 := blk_free rg 4
                have f5 := blk_free rg 5
                go_wp2
                have rF := six_set rg (.int .i64 0) (.int .i64 0) (.int .i64 0) (.int .i64 0) (.int .i64 0) (.int .i64 0)
                have q0 := blk_cell rF 0 _ rfl
                have q1 := blk_cell rF 1 _ rfl
                have q2 := blk_cell rF 2 _ rfl
                have q3 := blk_cell rF 3 _ rfl
                have q4 := blk_cell rF 4 _ rfl
                have q5 := blk_cell rF 5 _ rfl
                exact bodyPost_ret (v := .tuple #[six (fun _ => 0), .bool false]) (by simp [results, Tryz.results145, go_sem, q0, q1, q2, q3, q4, q5, six]) rfl ⟨.inr ⟨fun h => H1.out (h.2.2 i hlt2).1, rfl⟩, six_below (after hbx g.bel) (Nat.le_refl _) _ _ _ _ _ _⟩
            · obtain rfl : i = n := by omega
              have o0 := blk_cell hr2 0 _ rfl
              have o1 := blk_cell hr2 1 _ rfl
              have o2 := blk_cell hr2 2 _ rfl
              have o3 := blk_cell hr2 3 _ rfl
              have o4 := blk_cell hr2 4 _ rfl
              have o5 := blk_cell hr2 5 _ rfl
              have f0 := blk_free hr2 0
              have f1 := blk_free hr2 1
              have f2 := blk_free hr2 2
              have f3 := blk_free hr2 3
              have f4 := blk_free hr2 4
              have f5 := blk_free hr2 5
              have c0 := hrow2.cell (i := 0) (by omega)
              have c1 := hrow2.cell (i := 1) (by omega)
              have c2 := hrow2.cell (i := 2) (by omega)
              have c3 := hrow2.cell (i := 3) (by omega)
              have c4 := hrow2.cell (i := 4) (by omega)
              have c5 := hrow2.cell (i := 5) (by omega)
              go_wp2
              have rF := six_set hr2 (.int .i64 (freeR p S i 0)) (.int .i64 (freeR p S i 1)) (.int .i64 (freeR p S i 2)) (.int .i64 (freeR p S i 3)) (.int .i64 (freeR p S i 4)) (.int .i64 (freeR p S i 5))
              have q0 := blk_cell rF 0 _ rfl
              have q1 := blk_cell rF 1 _ rfl
              have q2 := blk_cell rF 2 _ rfl
              have q3 := blk_cell rF 3 _ rfl
              have q4 := blk_cell rF 4 _ rfl
              have q5 := blk_cell rF 5 _ rfl
              exact bodyPost_ret (v := .tuple #[six (freeR p S i), .bool true]) (by simp [results, Tryz.results145, go_sem, q0, q1, q2, q3, q4, q5, six]) rfl ⟨.inl ⟨⟨HG.out, h60, HA.out⟩, rfl⟩, six_below hbel2 (Nat.le_refl _) _ _ _ _ _ _⟩
    · have d0 : decide (60 < n) = true := by simp; omega
      have o0 := blk_cell r1 0 _ rfl
      have o1 := blk_cell r1 1 _ rfl
      have o2 := blk_cell r1 2 _ rfl
      have o3 := blk_cell r1 3 _ rfl
      have o4 := blk_cell r1 4 _ rfl
      have o5 := blk_cell r1 5 _ rfl
      have f0 := blk_free r1 0
      have f1 := blk_free r1 1
      have f2 := blk_free r1 2
      have f3 := blk_free r1 3
      have f4 := blk_free r1 4
      have f5 := blk_free r1 5
      go_wp2
      have rF := six_set r1 (.int .i64 0) (.int .i64 0) (.int .i64 0) (.int .i64 0) (.int .i64 0) (.int .i64 0)
      have q0 := blk_cell rF 0 _ rfl
      have q1 := blk_cell rF 1 _ rfl
      have q2 := blk_cell rF 2 _ rfl
      have q3 := blk_cell rF 3 _ rfl
      have q4 := blk_cell rF 4 _ rfl
      have q5 := blk_cell rF 5 _ rfl
      exact bodyPost_ret (v := .tuple #[six (fun _ => 0), .bool false]) (by simp [results, Tryz.results145, go_sem, q0, q1, q2, q3, q4, q5, six]) rfl ⟨.inr ⟨fun h => h60 h.2.1, rfl⟩, six_below bw1 (Nat.le_refl _) _ _ _ _ _ _⟩
end Go.Proofs.YtlelckbeoclhbaaGreat

namespace Go.Proofs.YtlelckbeoclhbaaGreat
open Go.RowKit
theorem ints_cellsF {w : World} {ao : Option Addr} {n : Nat} {F : Nat → Int} (h : IntsAt w ao n F) : ∀ ad, ao = some ad → ∀ j u, (intList F n)[j]? = some u → w.cell? (ad.add j) = some u := by
  intro ad e j u hu
  obtain ⟨hj, rfl⟩ := intList_get _ _ _ _ hu
  obtain ⟨b, off, e2, hc⟩ := h j hj
  rw [e] at e2
  cases e2
  rw [Addr.add_lit]
  exact hc
theorem cloneInts (ad : Addr) (n c : Nat) (F : Nat → Int) (w : World) (hn : n ≤ 1048576) (hx : IntsAt w (some ad) n F) :
    Calls Tryz.prog 66 #[.slice (some ad) n c] w fun e w' => (∃ v, e = .returned v ∧ w'.ownsRow w.heap.size 3 1 v n (intList F n)) ∧ Below w.heap.size w w' := by
  obtain ⟨j0, ji, jz0, jz1, jz2⟩ := info_parts Tryz.infoInt
  have hb0 : Below w.heap.size w (w.alloc (.cells #[] 3)) := push (Below.refl _ _) _
  have ho : (w.alloc (.cells #[] 3)).ownsRow w.heap.size 3 1 (.slice (some ⟨w.heap.size, 0, none⟩) 0 0) 0 [] := ⟨rfl, .inr ⟨w.heap.size, 0, #[], rfl, Nat.le_refl _, heap_alloc_new w _, Nat.le_refl _, Nat.zero_le _, rfl, rfl⟩⟩
  have HC : Hid (∀ ad', (some ad : Option Addr) = some ad' → ∀ j u, (intList F n)[j]? = some u → (w.alloc (.cells #[] 3)).cell? (ad'.add j) = some u) := ints_cellsF (hx.below hb0)
  have qT : ∀ (w : World) (a : Option Addr) (n c n' c' : Nat), (binOp .eql 31 (.slice a n c) (.slice none n' c')).run Tryz.prog w = .ok (.bool a.isNone) w := fun w a n c n' c' => Lib.run_eql_slice_nil w _ _ a n c n' c' Tryz.underlying31
  go_enter Tryz.func66, Tryz.ntmps66
  go_wp2_with (first | (at_builtin; refine wpList_append_any _ (by rfl) (.tmp 5) (.tmp 6) 31 (by rfl) w.heap.size 3 j0 (.int .i64 0) 1 8 Tryz.underlying31 ji jz0 jz1 jz2 rfl (by decide) _ 0 [] (by rfl) ho (some ad) n c (intList F n) (by rfl) (fun h => (by cases h)) (by rw [intList_length, Nat.mul_one]) HC.out (intList_one _ _) (by unfold maxLen; omega) (by omega) (by simp) ?_; intro v' w3 ho3 hg3))
  go_ret
  rw [Nat.zero_add, List.nil_append] at ho3
  exact ⟨⟨_, rfl, ho3⟩, hb0.grown hg3 (by simp) (fun j hj => (ho.lt j hj).1)⟩
end Go.Proofs.YtlelckbeoclhbaaGreat

namespace Go.Proofs.YtlelckbeoclhbaaGreat
open Go.RowKit
theorem six_ints {w : World} {f t m : Nat} {F G : Nat → Int} (h : w.heap[f]? = some (.cells #[.int .i64 (F 0), .int .i64 (F 1), .int .i64 (F 2), .int .i64 (F 3), .int .i64 (F 4), .int .i64 (F 5)] t (0, 0))) (hm : m ≤ 6) (hF : ∀ k, k < m → F k = G k) : IntsAt w (some ⟨f, 0, none⟩) m G := by
  intro k hk
  refine ⟨f, 0, rfl, ?_⟩
  rw [Nat.zero_add, ← hF k hk]
  have : k = 0 ∨ k = 1 ∨ k = 2 ∨ k = 3 ∨ k = 4 ∨ k = 5 := by omega
  rcases this with rfl | rfl | rfl | rfl | rfl | rfl
  · exact blk_cell h 0 _ rfl
  · exact blk_cell h 1 _ rfl
  · exact blk_cell h 2 _ rfl
  · exact blk_cell h 3 _ rfl
  · exact blk_cell h 4 _ rfl
  · exact blk_cell h 5 _ rfl
theorem implRooms_any (ao bo : Option Addr) (m mc n c : Nat) (p : Pairs) (S : Nat → Room) (w : World) (hl : p.n = m) (hm : m ≤ 1048576) (hn : n ≤ 1048576) (hc : n ≤ c) (hx : PairsAt w ao p) (hz : RoomsAt w bo n S) :
    Calls Tryz.prog 108 #[.slice ao m mc, .slice bo n c] w fun e w' => SaysIf (RoomsS p n S) e ∧ Below w.heap.size w w' := by
  have HX : Hid (PairsAt w ao p) := hx
  have HZ : Hid (RoomsAt w bo n S) := hz
  have HL : Hid (p.n = m) := hl
  clear hx hz hl
  go_enter Tryz.func108, Tryz.ntmps108
  go_wp2_with fail
  refine (freeInCabins_any ao bo m mc n c p S _ HL.out hm hn hc HX.out HZ.out).mono ?_
  rintro e w1 ⟨hans, hb1⟩
  unfold FreeRAns six at hans
  rcases hans with ⟨hd, rfl⟩ | ⟨hd, rfl⟩
  · have HD : Hid (RoomsS p n S) := rooms_iff.1 hd
    clear hd
    go_wp2
    go_ret
    exact ⟨says_yes HD.out, (by first | exact hb1 | exact push hb1 _)⟩
  · have HD : Hid (¬ RoomsS p n S) := fun h => hd (rooms_iff.2 h)
    clear hd
    go_wp2
    go_ret
    exact ⟨says_no HD.out, (by first | exact hb1 | exact push hb1 _)⟩
theorem implBerths_any (ao bo : Option Addr) (m mc n c : Nat) (p : Pairs) (S : Nat → Room) (w : World) (hl : p.n = m) (hm : m ≤ 1048576) (hn : n ≤ 1048576) (hc : n ≤ c) (hx : PairsAt w ao p) (hz : RoomsAt w bo n S) :
    Calls Tryz.prog 122 #[.slice ao m mc, .slice bo n c] w fun e w' => BerthsRes w' w.heap.size 3 p n S e ∧ Below w.heap.size w w' := by
  have HX : Hid (PairsAt w ao p) := hx
  have HZ : Hid (RoomsAt w bo n S) := hz
  have HL : Hid (p.n = m) := hl
  clear hx hz hl
  go_enter Tryz.func122, Tryz.ntmps122
  go_wp2_with fail
  refine (freeInCabins_any ao bo m mc n c p S _ HL.out hm hn hc HX.out HZ.out).mono ?_
  rintro e w1 ⟨hans, hb1⟩
  unfold FreeRAns six at hans
  rcases hans with ⟨hd, rfl⟩ | ⟨hd, rfl⟩
  · have HD : Hid (RoomsS p n S) := rooms_iff.1 hd
    have hm6 : m ≤ 6 := by rw [← HL.out]; exact hd.1.1
    clear hd
    have i1 : (0 : Int) ≤ (m : Int) := by omega
    have i2 : (m : Int) ≤ 6 := by omega
    have hb2 := push hb1 (.cells #[.int .i64 (freeR p S n 0), .int .i64 (freeR p S n 1), .int .i64 (freeR p S n 2), .int .i64 (freeR p S n 3), .int .i64 (freeR p S n 4), .int .i64 (freeR p S n 5)] 208)
    have HI : Hid (IntsAt (w1.alloc (.cells #[.int .i64 (freeR p S n 0), .int .i64 (freeR p S n 1), .int .i64 (freeR p S n 2), .int .i64 (freeR p S n 3), .int .i64 (freeR p S n 4), .int .i64 (freeR p S n 5)] 208)) (some ⟨w1.heap.size, 0, none⟩) m (leftR p S n)) := six_ints (F := freeR p S n) (heap_alloc_new w1 _) hm6 (fun k hk => if_pos (by rw [HL.out]; exact hk))
    go_wp2_with (first | (go_at_call 66; refine (cloneInts _ m _ (leftR p S n) _ hm HI.out).mono ?_; rintro e w2 ⟨⟨v, rfl, ho⟩, hb3⟩))
    exact bodyPost_ret (v := .tuple #[v, .bool true]) (by simp [results, Tryz.results122, go_sem]) rfl ⟨berthsRes_yes HD.out HL.out (own_base ho hb2.size), after hb2 hb3⟩
  · have HD : Hid (¬ RoomsS p n S) := fun h => hd (rooms_iff.2 h)
    clear hd
    go_wp2
    exact bodyPost_ret (v := .tuple #[.slice none 0 0, .bool false]) (by simp [results, Tryz.results122, go_sem]) rfl ⟨berthsRes_no HD.out, push hb1 _⟩
end Go.Proofs.YtlelckbeoclhbaaGreat
