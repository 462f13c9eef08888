/-
  OWN TEXT: SpecO2, SpecFt, KitDo, KitEn, PlainDx.
-/
import Derived.Test.YtfallpinmhbemaaGreatDoorB18
import Derived.Test.YtfallpinmhbemaaGreatDoorB10
import Derived.Test.YtfallpinmhbemaaGreatDoorB08
import Derived.Test.YtfallpinmhbemaaGreatDoorB05
import Derived.Test.YtfallpinmhbemaaGreatDoorB16
import Derived.Test.YtfallpinmhbemaaGreatDoorB11
import Derived.Test.YtfallpinmhbemaaGreatDoorB01
import Derived.Test.YtfallpinmhbemaaGreatDoorB17
namespace Go.Proofs.YtfallpinmhbemaaGreatDoor
open Go.RowKit

set_option maxHeartbeats 800000 in
theorem specOp_none (kind : Int) (own : ByteArray) (name : Int) (alg : Option Addr) (lgn clg : Nat) (lg : Nat → Int) (pe len hei cl : Int) (all : Bool) (be unt now : Int) (w : World) (k9 : ¬ In kind 1 9) :
    Calls Tryz.prog 18 #[.agg #[.int .i64 kind, .string own, .int .i64 name, .slice alg lgn clg, .int .i64 pe, .int .i64 len, .int .i64 hei, .int .i64 cl, .bool all, .int .i64 be, .int .i64 unt, .int .i64 now]] w fun e w' => e = .returned (.bool (decide (OpOk ⟨kind, own, name, lgn, lg, pe, len, hei, cl, all, be, unt, now⟩))) ∧ Below w.heap.size w w' := by
  rw [decide_eq_false (show ¬ OpOk ⟨kind, own, name, lgn, lg, pe, len, hei, cl, all, be, unt, now⟩ from fun h => k9 h.1)]
  have x9 : decide (In kind 1 9) = false := decide_eq_false k9
  clear k9
  go_enter Tryz.func18, Tryz.ntmps18
  go_wp2_with (first | (go_at_call 19; refine (l1In_is _ _ _ _).mono ?_; rintro e w' ⟨rfl, hw'⟩; have hw' := hw'.symm; subst hw'))
  go_ret
  exact ⟨rfl, push (Below.refl _ _) _⟩

theorem specOp_any (cs : List Value) (x : OpD) (w : World) (hs : x.own.size ≤ 1000000000000000) (h : OpD.Is w cs x) :
    Calls Tryz.prog 18 #[.agg cs.toArray] w fun e w' => e = .returned (.bool (decide (OpOk x))) ∧ Below w.heap.size w w' := by
  obtain ⟨alg, clg, rfl, _, _⟩ := h
  obtain ⟨kind, own, name, lgn, lg, pe, len, hei, cl, all, be, unt, now⟩ := x
  by_cases k9 : In kind 1 9
  · have h9 : kind = 1 ∨ kind = 2 ∨ kind = 3 ∨ kind = 4 ∨ kind = 5 ∨ kind = 6 ∨ kind = 7 ∨ kind = 8 ∨ kind = 9 := by unfold In at k9; omega
    rcases h9 with rfl | rfl | rfl | rfl | rfl | rfl | rfl | rfl | rfl
    · exact specOp_1 own name alg lgn clg lg pe len hei cl all be unt now w hs
    · exact specOp_2 own name alg lgn clg lg pe len hei cl all be unt now w hs
    · exact specOp_3 own name alg lgn clg lg pe len hei cl all be unt now w hs
    · exact specOp_4 own name alg lgn clg lg pe len hei cl all be unt now w hs
    · exact specOp_5 own name alg lgn clg lg pe len hei cl all be unt now w hs
    · exact specOp_6 own name alg lgn clg lg pe len hei cl all be unt now w hs
    · exact specOp_7 own name alg lgn clg lg pe len hei cl all be unt now w hs
    · exact specOp_8 own name alg lgn clg lg pe len hei cl all be unt now w hs
    · exact specOp_9 own name alg lgn clg lg pe len hei cl all be unt now w hs
  · exact specOp_none kind own name alg lgn clg lg pe len hei cl all be unt now w k9

end Go.Proofs.YtfallpinmhbemaaGreatDoor

namespace Go.Proofs.YtfallpinmhbemaaGreatDoor
open Go.RowKit

/-- The operation's way is none. -/
def RouteBad (N : Nat) (x : Off) (y : OpD) : Prop := (HasLegs y.kind ∧ ¬ LegsOk N x.sa y.lgn y.lg) ∨ (y.kind = 9 ∧ findIx x.sa (y.lg 0) N = N)
def FaultAns (N R m : Nat) (x : Off) (y : OpD) (code : Int) : Prop :=
  (¬ OpOk y → code = 1) ∧ (OpOk y → RouteBad N x y → code = 2) ∧ (OpOk y → ¬ RouteBad N x y → In y.kind 4 8 → NameAns R m x y code) ∧ (OpOk y → ¬ RouteBad N x y → ¬ In y.kind 4 8 → code = 0)

set_option maxHeartbeats 6400000 in
set_option maxRecDepth 100000 in
theorem l7Fault_any (asa ald abk alg : Option Addr) (N M R csa cld cbk clg m : Nat) (x : Off) (y : OpD) (w : World) (hN : N ≤ 1048576) (hR : R ≤ 1048576) (hl : y.lgn ≤ 1048576) (ho : y.own.size ≤ 1000000000000000) (hz : SailsAt w asa N x.sa) (hbk : BooksAt w abk R x.bk) (hop : OpD.Is w [.int .i64 y.kind, .string y.own, .int .i64 y.name, .slice alg y.lgn clg, .int .i64 y.pe, .int .i64 y.len, .int .i64 y.hei, .int .i64 y.cl, .bool y.all, .int .i64 y.be, .int .i64 y.unt, .int .i64 y.now] y) (hm : OpOk y → In y.kind 4 8 → y.name = (m : Int) + 1 ∧ m ≤ 1048576) :
    Calls Tryz.prog 120 #[.agg #[.slice asa N csa, .slice ald M cld, .slice abk R cbk], .agg #[.int .i64 y.kind, .string y.own, .int .i64 y.name, .slice alg y.lgn clg, .int .i64 y.pe, .int .i64 y.len, .int .i64 y.hei, .int .i64 y.cl, .bool y.all, .int .i64 y.be, .int .i64 y.unt, .int .i64 y.now]] w fun e w' => (∃ code : Int, e = .returned (.int .i64 code) ∧ FaultAns N R m x y code) ∧ Below w.heap.size w w' := by
  have HM : Hid (OpOk y → In y.kind 4 8 → y.name = (m : Int) + 1 ∧ m ≤ 1048576) := hm
  clear hm
  have HBK : Hid (BooksAt w abk R x.bk) := hbk
  have HZ : Hid (SailsAt w asa N x.sa) := hz
  have HOP : Hid (OpD.Is w [.int .i64 y.kind, .string y.own, .int .i64 y.name, .slice alg y.lgn clg, .int .i64 y.pe, .int .i64 y.len, .int .i64 y.hei, .int .i64 y.cl, .bool y.all, .int .i64 y.be, .int .i64 y.unt, .int .i64 y.now] y) := hop
  have HLG : Hid (IntsAt w alg y.lgn y.lg) := by
    obtain ⟨a, c, e, h, _⟩ := hop
    simp only [List.cons.injEq, Value.slice.injEq] at e
    obtain ⟨_, _, _, ⟨rfl, _, _⟩, _⟩ := e
    exact h
  clear hbk hz hop
  have hb0 : Below w.heap.size w ((w.alloc (.cells #[.slice asa N csa, .slice ald M cld, .slice abk R cbk] 66)).alloc (.cells #[.int .i64 y.kind, .string y.own, .int .i64 y.name, .slice alg y.lgn clg, .int .i64 y.pe, .int .i64 y.len, .int .i64 y.hei, .int .i64 y.cl, .bool y.all, .int .i64 y.be, .int .i64 y.unt, .int .i64 y.now] 27)) := push (push (Below.refl _ _) _) _
  have bF : ((w.alloc (.cells #[.slice asa N csa, .slice ald M cld, .slice abk R cbk] 66)).alloc (.cells #[.int .i64 y.kind, .string y.own, .int .i64 y.name, .slice alg y.lgn clg, .int .i64 y.pe, .int .i64 y.len, .int .i64 y.hei, .int .i64 y.cl, .bool y.all, .int .i64 y.be, .int .i64 y.unt, .int .i64 y.now] 27)).heap[w.heap.size]? = some (.cells #[.slice asa N csa, .slice ald M cld, .slice abk R cbk] 66 (0, 0)) := blk_alloc (heap_alloc_new w _) _
  have bO : ((w.alloc (.cells #[.slice asa N csa, .slice ald M cld, .slice abk R cbk] 66)).alloc (.cells #[.int .i64 y.kind, .string y.own, .int .i64 y.name, .slice alg y.lgn clg, .int .i64 y.pe, .int .i64 y.len, .int .i64 y.hei, .int .i64 y.cl, .bool y.all, .int .i64 y.be, .int .i64 y.unt, .int .i64 y.now] 27)).heap[w.heap.size + 1]? = some (.cells #[.int .i64 y.kind, .string y.own, .int .i64 y.name, .slice alg y.lgn clg, .int .i64 y.pe, .int .i64 y.len, .int .i64 y.hei, .int .i64 y.cl, .bool y.all, .int .i64 y.be, .int .i64 y.unt, .int .i64 y.now] 27 (0, 0)) := by simpa using heap_alloc_new (w.alloc (.cells #[.slice asa N csa, .slice ald M cld, .slice abk R cbk] 66)) _
  go_enter Tryz.func120, Tryz.ntmps120
  go_upto_region 1 with fail
  generalize (w.alloc (.cells #[.slice asa N csa, .slice ald M cld, .slice abk R cbk] 66)).alloc (.cells #[.int .i64 y.kind, .string y.own, .int .i64 y.name, .slice alg y.lgn clg, .int .i64 y.pe, .int .i64 y.len, .int .i64 y.hei, .int .i64 y.cl, .bool y.all, .int .i64 y.be, .int .i64 y.unt, .int .i64 y.now] 27) = V at hb0 bF bO ⊢
  have o0 := blk_cell bO 0 _ rfl
  have o1 := blk_cell bO 1 _ rfl
  have o2 := blk_cell bO 2 _ rfl
  have o3 := blk_cell bO 3 _ rfl
  have o4 := blk_cell bO 4 _ rfl
  have o5 := blk_cell bO 5 _ rfl
  have o6 := blk_cell bO 6 _ rfl
  have o7 := blk_cell bO 7 _ rfl
  have o8 := blk_cell bO 8 _ rfl
  have o9 := blk_cell bO 9 _ rfl
  have o10 := blk_cell bO 10 _ rfl
  have o11 := blk_cell bO 11 _ rfl
  obtain ⟨q, hq⟩ : ∃ q : Bool, q = decide (OpOk y) := ⟨_, rfl⟩
  have cg := specOp_any [.int .i64 y.kind, .string y.own, .int .i64 y.name, .slice alg y.lgn clg, .int .i64 y.pe, .int .i64 y.len, .int .i64 y.hei, .int .i64 y.cl, .bool y.all, .int .i64 y.be, .int .i64 y.unt, .int .i64 y.now] y V ho (HOP.out.below hb0)
  rw [← hq] at cg
  have HQ : Hid (q = true ↔ OpOk y) := by rw [hq]; exact decide_eq_true_iff
  clear hq
  go_wp2_with fail
  refine cg.mono ?_
  clear cg
  rintro e w1 ⟨rfl, hb1⟩
  have bO1 := blk_below bO hb1
  have bF1 := blk_below bF hb1
  have HB1 : Hid (Below w.heap.size w w1) := after hb0 hb1
  clear o0 o1 o2 o3 o4 o5 o6 o7 o8 o9 o10 o11 bO bF hb0 hb1
  cases q with
  | false =>
    have hno : ¬ OpOk y := fun h => by have := HQ.out.2 h; cases this
    have HF : Hid (FaultAns N R m x y 1) := ⟨fun _ => rfl, fun h => absurd h hno, fun h => absurd h hno, fun h => absurd h hno⟩
    clear hno
    go_wp2
    go_ret
    exact ⟨⟨1, rfl, HF.out⟩, HB1.out⟩
  | true =>
    have HOK : Hid (OpOk y) := by first | exact HQ.out.1 rfl | exact HQ.out.1 trivial
    have o0 := blk_cell bO1 0 _ rfl
    have o3 := blk_cell bO1 3 _ rfl
    have f0 := blk_cell bF1 0 _ rfl
    by_cases hL : HasLegs y.kind
    · have dL : decide (HasLegs y.kind) = true := decide_eq_true hL
      have k9 : (y.kind == 9) = false := by rw [beq_eq_false_iff_ne]; unfold HasLegs at hL; omega
      go_wp2_with (go_at_call 44; refine (l7Legs_is _ _).mono ?_; rintro e w' ⟨rfl, hw'⟩; have hw' := hw'.symm; subst hw')
      refine (l3Fit_any asa alg N y.lgn csa clg x.sa y.lg _ hN hl (HZ.out.below HB1.out) (HLG.out.below HB1.out)).mono ?_
      rintro e w2 ⟨⟨r, rfl, hr⟩, hb2⟩
      have bO2 := blk_below bO1 hb2
      have bF2 := blk_below bF1 hb2
      have HB2 : Hid (Below w.heap.size w w2) := after HB1.out hb2
      have HRR : Hid (r = true ↔ LegsOk N x.sa y.lgn y.lg) := hr
      clear o0 o3 f0 bO1 bF1 HB1 hb2 hr dL
      cases r with
      | false =>
        have HF : Hid (FaultAns N R m x y 2) := by
          have hb : RouteBad N x y := .inl ⟨hL, fun h => by have := HRR.out.2 h; cases this⟩
          exact ⟨fun h => absurd HOK.out h, fun _ _ => rfl, fun _ h => absurd hb h, fun _ h => absurd hb h⟩
        clear hL
        go_wp2
        go_ret
        exact ⟨⟨2, rfl, HF.out⟩, HB2.out⟩
      | true =>
        have HNB : Hid (¬ RouteBad N x y) := by
          rintro (⟨_, h⟩ | ⟨h, _⟩)
          · exact h (by first | exact HRR.out.1 rfl | exact HRR.out.1 trivial)
          · unfold HasLegs at hL; omega
        clear hL
        have u0 : ∀ h : Grown w2, h.val.cell? ⟨w.heap.size + 1, 0, none⟩ = some (.int .i64 y.kind) := fun h => blk_cell (blk_below bO2 h.bel) 0 _ rfl
        have u3 : ∀ h : Grown w2, h.val.cell? ⟨w.heap.size + 1, 3, none⟩ = some (.slice alg y.lgn clg) := fun h => blk_cell (blk_below bO2 h.bel) 3 _ rfl
        have v0 : ∀ h : Grown w2, h.val.cell? ⟨w.heap.size, 0, none⟩ = some (.slice asa N csa) := fun h => blk_cell (blk_below bF2 h.bel) 0 _ rfl
        go_upto_region 5 with fail
        refine wp_region_grow (by kernel_rfl) (by kernel_rfl) ?_
        repeat (first | go_big_quiet_skip | (go_big_quiet_want; go_big_quiet_op; first | go_big_quiet_on))
        refine wpQuiet_nil ?_
        rintro _ ⟨g, rfl⟩
        have bO3 := blk_below bO2 g.bel
        have bF3 := blk_below bF2 g.bel
        have HB3 : Hid (Below w.heap.size w g.val) := after HB2.out g.bel
        generalize g.val = w3 at bO3 bF3 HB3 ⊢
        clear u0 u3 v0 bO2 bF2 HB2
        by_cases hn : In y.kind 4 8
        · have dN : decide (In y.kind 4 8) = true := decide_eq_true hn
          have p0 := blk_cell bO3 0 _ rfl
          have p1 := blk_cell bO3 1 _ rfl
          have p2 := blk_cell bO3 2 _ rfl
          have p3 := blk_cell bO3 3 _ rfl
          have p4 := blk_cell bO3 4 _ rfl
          have p5 := blk_cell bO3 5 _ rfl
          have p6 := blk_cell bO3 6 _ rfl
          have p7 := blk_cell bO3 7 _ rfl
          have p8 := blk_cell bO3 8 _ rfl
          have p9 := blk_cell bO3 9 _ rfl
          have p10 := blk_cell bO3 10 _ rfl
          have p11 := blk_cell bO3 11 _ rfl
          have s0 := blk_cell bF3 0 _ rfl
          have s1 := blk_cell bF3 1 _ rfl
          have s2 := blk_cell bF3 2 _ rfl
          have HNM : Hid (y.name = (m : Int) + 1 ∧ m ≤ 1048576) := HM.out HOK.out hn
          go_wp2_with (go_at_call 43; refine (l7Named_is _ _).mono ?_; rintro e w' ⟨rfl, hw'⟩; have hw' := hw'.symm; subst hw')
          refine (l7NameFault_any asa ald abk alg N M R csa cld cbk clg m x y w3 hR HNM.out.2 HNM.out.1 (HBK.out.below HB3.out)).mono ?_
          rintro e w4 ⟨⟨code, rfl, hcd⟩, hb4⟩
          have HF : Hid (FaultAns N R m x y code) := ⟨fun h => absurd HOK.out h, fun _ h => absurd h HNB.out, fun _ _ _ => hcd, fun _ _ h => absurd hn h⟩
          have HBF : Hid (Below w.heap.size w w4) := after HB3.out hb4
          clear hcd
          go_wp2
          go_ret
          exact ⟨⟨code, rfl, HF.out⟩, HBF.out⟩
        · have dN : decide (In y.kind 4 8) = false := decide_eq_false hn
          have p0 := blk_cell bO3 0 _ rfl
          have HF : Hid (FaultAns N R m x y 0) := ⟨fun h => absurd HOK.out h, fun _ h => absurd h HNB.out, fun _ _ h => absurd h hn, fun _ _ _ => rfl⟩
          go_wp2_with (go_at_call 43; refine (l7Named_is _ _).mono ?_; rintro e w' ⟨rfl, hw'⟩; have hw' := hw'.symm; subst hw')
          go_ret
          exact ⟨⟨0, rfl, HF.out⟩, HB3.out⟩
    · have dL : decide (HasLegs y.kind) = false := decide_eq_false hL
      have bO2 := bO1
      have bF2 := bF1
      have HB2 : Hid (Below w.heap.size w w1) := HB1
      by_cases h9 : y.kind = 9
      · have hl1 : y.lgn = 1 := by
          have h := HOK.out.2.2.2.1
          unfold LegsOkFor at h
          rw [if_neg hL, if_pos h9] at h
          exact h
        have k9 : (y.kind == 9) = true := by rw [beq_iff_eq]; exact h9
        have H9 : Hid (y.kind = 9) := h9
        obtain ⟨gb, go, hga, hgc⟩ := HLG.out 0 (by omega)
        subst hga
        have i0 : (0 : Int) < (y.lgn : Int) := by omega
        have i0' : 0 < y.lgn := by omega
        have z0 : ∀ h : Grown w1, h.val.cell? ⟨gb, go, none⟩ = some (.int .i64 (y.lg 0)) := fun h => ((after HB1.out h.bel).cell (World.block_lt_of_cell? w _ hgc)).trans hgc
        clear bO1 bF1 HB1 hgc
        have HNL : Hid (¬ HasLegs y.kind) := hL
        have HL1 : Hid (y.lgn = 1) := hl1
        clear hL h9 hl1
        obtain ⟨fi, hfi⟩ : ∃ fi, fi = findIx x.sa (y.lg 0) N := ⟨_, rfl⟩
        have HFI : Hid (fi = findIx x.sa (y.lg 0) N) := hfi
        by_cases hfx : fi < N
        · have HNB : Hid (¬ RouteBad N x y) := by
            rintro (⟨h, _⟩ | ⟨_, h⟩)
            · exact HNL.out h
            · have e := HFI.out; omega
          have HAT : Hid (∀ g : Grown w1, Calls Tryz.prog 110 #[.slice asa N csa, .int .i64 (y.lg 0)] g.val fun e w'' => e = .returned (.int .i64 (fi : Int)) ∧ ∃ g' : Grown w1, w'' = g'.val) := fun g => grown_call (v := .int .i64 (fi : Int)) ((l3At_any asa N csa x.sa (y.lg 0) g.val hN (HZ.out.below (after HB2.out g.bel))).mono fun e w'' ⟨h, hb⟩ => by
            rw [← HFI.out] at h
            rcases h with ⟨_, h⟩ | ⟨h, _⟩
            · exact ⟨h, hb⟩
            · omega)
          have d9 : decide ((fi : Int) < 0) = false := decide_eq_false (by omega)
          clear hfi
          go_upto_region 5 with (go_at_call 44; refine (l7Legs_is _ _).mono ?_; rintro e w' ⟨rfl, hw'⟩; have hw' := hw'.symm; subst hw')
          clear o0 o3 f0 dL
          have u0 : ∀ h : Grown w1, h.val.cell? ⟨w.heap.size + 1, 0, none⟩ = some (.int .i64 y.kind) := fun h => blk_cell (blk_below bO2 h.bel) 0 _ rfl
          have u3 : ∀ h : Grown w1, h.val.cell? ⟨w.heap.size + 1, 3, none⟩ = some (.slice (some ⟨gb, go, none⟩) y.lgn clg) := fun h => blk_cell (blk_below bO2 h.bel) 3 _ rfl
          have v0 : ∀ h : Grown w1, h.val.cell? ⟨w.heap.size, 0, none⟩ = some (.slice asa N csa) := fun h => blk_cell (blk_below bF2 h.bel) 0 _ rfl
          refine wp_region_grow (by kernel_rfl) (by kernel_rfl) ?_
          repeat (first | go_big_quiet_skip | (go_big_quiet_want; go_big_quiet_op; first | go_big_quiet_on | (apply Exists.intro; refine ⟨fun g => ?_, ?_⟩; (focus (go_at_call 110; exact HAT.out g)); go_big_quiet_on)))
          refine wpQuiet_nil ?_
          rintro _ ⟨g, rfl⟩
          have bO3 := blk_below bO2 g.bel
          have bF3 := blk_below bF2 g.bel
          have HB3 : Hid (Below w.heap.size w g.val) := after HB2.out g.bel
          generalize g.val = w3 at bO3 bF3 HB3 ⊢
          clear u0 u3 v0 z0 bO2 bF2 HB2
          by_cases hn : In y.kind 4 8
          · have dN : decide (In y.kind 4 8) = true := decide_eq_true hn
            have p0 := blk_cell bO3 0 _ rfl
            have p1 := blk_cell bO3 1 _ rfl
            have p2 := blk_cell bO3 2 _ rfl
            have p3 := blk_cell bO3 3 _ rfl
            have p4 := blk_cell bO3 4 _ rfl
            have p5 := blk_cell bO3 5 _ rfl
            have p6 := blk_cell bO3 6 _ rfl
            have p7 := blk_cell bO3 7 _ rfl
            have p8 := blk_cell bO3 8 _ rfl
            have p9 := blk_cell bO3 9 _ rfl
            have p10 := blk_cell bO3 10 _ rfl
            have p11 := blk_cell bO3 11 _ rfl
            have s0 := blk_cell bF3 0 _ rfl
            have s1 := blk_cell bF3 1 _ rfl
            have s2 := blk_cell bF3 2 _ rfl
            have HNM : Hid (y.name = (m : Int) + 1 ∧ m ≤ 1048576) := HM.out HOK.out hn
            go_wp2_with (go_at_call 43; refine (l7Named_is _ _).mono ?_; rintro e w' ⟨rfl, hw'⟩; have hw' := hw'.symm; subst hw')
            refine (l7NameFault_any asa ald abk (some ⟨gb, go, none⟩) N M R csa cld cbk clg m x y w3 hR HNM.out.2 HNM.out.1 (HBK.out.below HB3.out)).mono ?_
            rintro e w4 ⟨⟨code, rfl, hcd⟩, hb4⟩
            have HF : Hid (FaultAns N R m x y code) := ⟨fun h => absurd HOK.out h, fun _ h => absurd h HNB.out, fun _ _ _ => hcd, fun _ _ h => absurd hn h⟩
            have HBF : Hid (Below w.heap.size w w4) := after HB3.out hb4
            clear hcd
            go_wp2
            go_ret
            exact ⟨⟨code, rfl, HF.out⟩, HBF.out⟩
          · have dN : decide (In y.kind 4 8) = false := decide_eq_false hn
            have p0 := blk_cell bO3 0 _ rfl
            have HF : Hid (FaultAns N R m x y 0) := ⟨fun h => absurd HOK.out h, fun _ h => absurd h HNB.out, fun _ _ h => absurd h hn, fun _ _ _ => rfl⟩
            go_wp2_with (go_at_call 43; refine (l7Named_is _ _).mono ?_; rintro e w' ⟨rfl, hw'⟩; have hw' := hw'.symm; subst hw')
            go_ret
            exact ⟨⟨0, rfl, HF.out⟩, HB3.out⟩
        · have HF : Hid (FaultAns N R m x y 2) := by
            have hb : RouteBad N x y := .inr ⟨H9.out, by
              have e := HFI.out
              have h2 := findIx_le x.sa (y.lg 0) N
              omega⟩
            exact ⟨fun h => absurd HOK.out h, fun _ _ => rfl, fun _ h => absurd hb h, fun _ h => absurd hb h⟩
          have HAT : Hid (∀ g : Grown w1, Calls Tryz.prog 110 #[.slice asa N csa, .int .i64 (y.lg 0)] g.val fun e w'' => e = .returned (.int .i64 (-1)) ∧ ∃ g' : Grown w1, w'' = g'.val) := fun g => grown_call (v := .int .i64 (-1)) ((l3At_any asa N csa x.sa (y.lg 0) g.val hN (HZ.out.below (after HB2.out g.bel))).mono fun e w'' ⟨h, hb⟩ => by
            rw [← HFI.out] at h
            rcases h with ⟨h, _⟩ | ⟨_, h⟩
            · omega
            · exact ⟨h, hb⟩)
          clear hfi
          go_upto_region 5 with (go_at_call 44; refine (l7Legs_is _ _).mono ?_; rintro e w' ⟨rfl, hw'⟩; have hw' := hw'.symm; subst hw')
          clear o0 o3 f0 dL
          have u0 : ∀ h : Grown w1, h.val.cell? ⟨w.heap.size + 1, 0, none⟩ = some (.int .i64 y.kind) := fun h => blk_cell (blk_below bO2 h.bel) 0 _ rfl
          have u3 : ∀ h : Grown w1, h.val.cell? ⟨w.heap.size + 1, 3, none⟩ = some (.slice (some ⟨gb, go, none⟩) y.lgn clg) := fun h => blk_cell (blk_below bO2 h.bel) 3 _ rfl
          have v0 : ∀ h : Grown w1, h.val.cell? ⟨w.heap.size, 0, none⟩ = some (.slice asa N csa) := fun h => blk_cell (blk_below bF2 h.bel) 0 _ rfl
          refine wp_region_grow (by kernel_rfl) (by kernel_rfl) ?_
          repeat (first | go_big_quiet_skip | (go_big_quiet_want; go_big_quiet_op; first | go_big_quiet_on | (apply Exists.intro; refine ⟨fun g => ?_, ?_⟩; (focus (go_at_call 110; exact HAT.out g)); go_big_quiet_on)))
          refine wpQuiet_nil ?_
          rintro _ ⟨g, rfl⟩
          have bO3 := blk_below bO2 g.bel
          have bF3 := blk_below bF2 g.bel
          have HB3 : Hid (Below w.heap.size w g.val) := after HB2.out g.bel
          generalize g.val = w3 at bO3 bF3 HB3 ⊢
          clear u0 u3 v0 z0 bO2 bF2 HB2
          go_wp2
          go_ret
          exact ⟨⟨2, rfl, HF.out⟩, HB3.out⟩
      · have k9 : (y.kind == 9) = false := by rw [beq_eq_false_iff_ne]; exact h9
        have HNB : Hid (¬ RouteBad N x y) := by
          rintro (⟨h, _⟩ | ⟨h, _⟩)
          · exact hL h
          · exact h9 h
        clear hL h9 bO1 bF1 HB1
        go_upto_region 5 with (go_at_call 44; refine (l7Legs_is _ _).mono ?_; rintro e w' ⟨rfl, hw'⟩; have hw' := hw'.symm; subst hw')
        clear o0 o3 f0 dL
        have u0 : ∀ h : Grown w1, h.val.cell? ⟨w.heap.size + 1, 0, none⟩ = some (.int .i64 y.kind) := fun h => blk_cell (blk_below bO2 h.bel) 0 _ rfl
        have u3 : ∀ h : Grown w1, h.val.cell? ⟨w.heap.size + 1, 3, none⟩ = some (.slice alg y.lgn clg) := fun h => blk_cell (blk_below bO2 h.bel) 3 _ rfl
        have v0 : ∀ h : Grown w1, h.val.cell? ⟨w.heap.size, 0, none⟩ = some (.slice asa N csa) := fun h => blk_cell (blk_below bF2 h.bel) 0 _ rfl
        refine wp_region_grow (by kernel_rfl) (by kernel_rfl) ?_
        repeat (first | go_big_quiet_skip | (go_big_quiet_want; go_big_quiet_op; first | go_big_quiet_on))
        refine wpQuiet_nil ?_
        rintro _ ⟨g, rfl⟩
        have bO3 := blk_below bO2 g.bel
        have bF3 := blk_below bF2 g.bel
        have HB3 : Hid (Below w.heap.size w g.val) := after HB2.out g.bel
        generalize g.val = w3 at bO3 bF3 HB3 ⊢
        clear u0 u3 v0 bO2 bF2 HB2
        by_cases hn : In y.kind 4 8
        · have dN : decide (In y.kind 4 8) = true := decide_eq_true hn
          have p0 := blk_cell bO3 0 _ rfl
          have p1 := blk_cell bO3 1 _ rfl
          have p2 := blk_cell bO3 2 _ rfl
          have p3 := blk_cell bO3 3 _ rfl
          have p4 := blk_cell bO3 4 _ rfl
          have p5 := blk_cell bO3 5 _ rfl
          have p6 := blk_cell bO3 6 _ rfl
          have p7 := blk_cell bO3 7 _ rfl
          have p8 := blk_cell bO3 8 _ rfl
          have p9 := blk_cell bO3 9 _ rfl
          have p10 := blk_cell bO3 10 _ rfl
          have p11 := blk_cell bO3 11 _ rfl
          have s0 := blk_cell bF3 0 _ rfl
          have s1 := blk_cell bF3 1 _ rfl
          have s2 := blk_cell bF3 2 _ rfl
          have HNM : Hid (y.name = (m : Int) + 1 ∧ m ≤ 1048576) := HM.out HOK.out hn
          go_wp2_with (go_at_call 43; refine (l7Named_is _ _).mono ?_; rintro e w' ⟨rfl, hw'⟩; have hw' := hw'.symm; subst hw')
          refine (l7NameFault_any asa ald abk alg N M R csa cld cbk clg m x y w3 hR HNM.out.2 HNM.out.1 (HBK.out.below HB3.out)).mono ?_
          rintro e w4 ⟨⟨code, rfl, hcd⟩, hb4⟩
          have HF : Hid (FaultAns N R m x y code) := ⟨fun h => absurd HOK.out h, fun _ h => absurd h HNB.out, fun _ _ _ => hcd, fun _ _ h => absurd hn h⟩
          have HBF : Hid (Below w.heap.size w w4) := after HB3.out hb4
          clear hcd
          go_wp2
          go_ret
          exact ⟨⟨code, rfl, HF.out⟩, HBF.out⟩
        · have dN : decide (In y.kind 4 8) = false := decide_eq_false hn
          have p0 := blk_cell bO3 0 _ rfl
          have HF : Hid (FaultAns N R m x y 0) := ⟨fun h => absurd HOK.out h, fun _ h => absurd h HNB.out, fun _ _ h => absurd h hn, fun _ _ _ => rfl⟩
          go_wp2_with (go_at_call 43; refine (l7Named_is _ _).mono ?_; rintro e w' ⟨rfl, hw'⟩; have hw' := hw'.symm; subst hw')
          go_ret
          exact ⟨⟨0, rfl, HF.out⟩, HB3.out⟩

end Go.Proofs.YtfallpinmhbemaaGreatDoor

namespace Go.Proofs.YtfallpinmhbemaaGreatDoor
open Go.RowKit

theorem setL_at (L : Nat → Load) (k : Nat) (x : Load) : setL L k x k = x := if_pos rfl
theorem setL_ne (L : Nat → Load) (k : Nat) (x : Load) {j : Nat} (h : j ≠ k) : setL L k x j = L j := if_neg h
theorem setL_same (L : Nat → Load) (k : Nat) : setL L k (L k) = L := by
  funext j
  unfold setL
  by_cases c : j = k
  · subst c; rw [if_pos rfl]
  · rw [if_neg c]
theorem FarV.put {A : Nat → Value} {N k lim : Nat} {a : Value} (h : FarV N A) (h1 : ∀ i, i < N → ∀ b, (A i).ownBlock = some b → b < lim) (h2 : ∀ b, a.ownBlock = some b → lim ≤ b) : FarV N (atV A k a) := fun i j hi hj hne b e1 e2 => by
  by_cases ei : i = k
  · subst ei
    rw [atV_at] at e1
    rw [atV_ne _ _ _ _ (fun h => hne h.symm)] at e2
    have := h1 j hj b e2
    have := h2 b e1
    omega
  · rw [atV_ne _ _ _ _ ei] at e1
    by_cases ej : j = k
    · subst ej
      rw [atV_at] at e2
      have := h1 i hi b e1
      have := h2 b e2
      omega
    · rw [atV_ne _ _ _ _ ej] at e2
      exact h i j hi hj hne b e1 e2
section
variable {w w' : World} {base g c k N n lim : Nat} {S : Nat → Load} {A B C : Nat → Value} {u : Value}
theorem ldRow_put0 (h : w.ownsRow base 136 3 (.slice (some ⟨g, 0, none⟩) N c) N (ldRow A B C N)) : (w.setCell ⟨g, k * 3 + 0, none⟩ u).ownsRow base 136 3 (.slice (some ⟨g, 0, none⟩) N c) N (ldRow (atV A k u) B C N) := by
  refine own_congr (own_store h (k * 3 + 0) u) (fun j hj => ?_)
  by_cases h2 : j = k * 3 + 0
  · subst h2
    rw [if_pos rfl, recCell_at 3 _ k 0 (by decide)]
    unfold ldC
    rw [atV_at]
    rfl
  · rw [if_neg h2]
    unfold recCell ldC
    by_cases e : j / 3 = k
    · have hm : j % 3 = 1 ∨ j % 3 = 2 := by omega
      rcases hm with hm | hm <;> rw [hm] <;> rfl
    · rw [atV_ne _ _ _ _ e]
theorem ldRow_put1 (h : w.ownsRow base 136 3 (.slice (some ⟨g, 0, none⟩) N c) N (ldRow A B C N)) : (w.setCell ⟨g, k * 3 + 1, none⟩ u).ownsRow base 136 3 (.slice (some ⟨g, 0, none⟩) N c) N (ldRow A (atV B k u) C N) := by
  refine own_congr (own_store h (k * 3 + 1) u) (fun j hj => ?_)
  by_cases h2 : j = k * 3 + 1
  · subst h2
    rw [if_pos rfl, recCell_at 3 _ k 1 (by decide)]
    unfold ldC
    rw [atV_at]
    rfl
  · rw [if_neg h2]
    unfold recCell ldC
    by_cases e : j / 3 = k
    · have hm : j % 3 = 0 ∨ j % 3 = 2 := by omega
      rcases hm with hm | hm <;> rw [hm] <;> rfl
    · rw [atV_ne _ _ _ _ e]
theorem ldRow_put2 (h : w.ownsRow base 136 3 (.slice (some ⟨g, 0, none⟩) N c) N (ldRow A B C N)) : (w.setCell ⟨g, k * 3 + 2, none⟩ u).ownsRow base 136 3 (.slice (some ⟨g, 0, none⟩) N c) N (ldRow A B (atV C k u) N) := by
  refine own_congr (own_store h (k * 3 + 2) u) (fun j hj => ?_)
  by_cases h2 : j = k * 3 + 2
  · subst h2
    rw [if_pos rfl, recCell_at 3 _ k 2 (by decide)]
    unfold ldC
    rw [atV_at]
    rfl
  · rw [if_neg h2]
    unfold recCell ldC
    by_cases e : j / 3 = k
    · have hm : j % 3 = 0 ∨ j % 3 = 1 := by omega
      rcases hm with hm | hm <;> rw [hm] <;> rfl
    · rw [atV_ne _ _ _ _ e]
theorem OwnLds.putSt {T : Nat → Stay} (h : OwnLds w base (.slice (some ⟨g, 0, none⟩) N c) N S A B C) (hlim : ∀ i, i < N → ∀ b, (A i).ownBlock = some b → b < lim) (hl : w.ownsRow lim 186 4 u n (stayList T n)) (hbl : base ≤ lim) :
    OwnLds (w.setCell ⟨g, k * 3 + 0, none⟩ u) base (.slice (some ⟨g, 0, none⟩) N c) N (setL S k { S k with stn := n, st := T }) (atV A k u) B C := by
  have hk : Kept w (w.setCell ⟨g, k * 3 + 0, none⟩ u) (fun x => x = g) := (Kept.refl w (fun x => x = g)).set (a := ⟨g, k * 3 + 0, none⟩) rfl _
  have far : ∀ {t sz n : Nat} {v : Value} {xs : List Value}, w.ownsRow base t sz v n xs → 136 ≠ t → (w.setCell ⟨g, k * 3 + 0, none⟩ u).ownsRow base t sz v n xs := fun ho ht => hk.own ho (fun q hq1 hq2 => own_apart h.row ho ht q (by rw [hq2]; rfl) hq1)
  refine ⟨ldRow_put0 h.row, fun i hi => ?_, fun i hi => ?_, fun i hi => ?_, h.far.1.put hlim (fun b e => (hl.lt b e).1), h.far.2.1, h.far.2.2⟩
  · by_cases e : i = k
    · subst e; rw [atV_at, setL_at]; exact far (own_base hl hbl) (by decide)
    · rw [atV_ne _ _ _ _ e, setL_ne _ _ _ e]; exact far (h.st i hi) (by decide)
  · by_cases e : i = k
    · subst e; rw [setL_at]; exact far (h.ro i hi) (by decide)
    · rw [setL_ne _ _ _ e]; exact far (h.ro i hi) (by decide)
  · by_cases e : i = k
    · subst e; rw [setL_at]; exact far (h.se i hi) (by decide)
    · rw [setL_ne _ _ _ e]; exact far (h.se i hi) (by decide)
theorem OwnLds.putRo {T : Nat → Room} (h : OwnLds w base (.slice (some ⟨g, 0, none⟩) N c) N S A B C) (hlim : ∀ i, i < N → ∀ b, (B i).ownBlock = some b → b < lim) (hl : w.ownsRow lim 190 4 u n (roomList T n)) (hbl : base ≤ lim) :
    OwnLds (w.setCell ⟨g, k * 3 + 1, none⟩ u) base (.slice (some ⟨g, 0, none⟩) N c) N (setL S k { S k with ron := n, ro := T }) A (atV B k u) C := by
  have hk : Kept w (w.setCell ⟨g, k * 3 + 1, none⟩ u) (fun x => x = g) := (Kept.refl w (fun x => x = g)).set (a := ⟨g, k * 3 + 1, none⟩) rfl _
  have far : ∀ {t sz n : Nat} {v : Value} {xs : List Value}, w.ownsRow base t sz v n xs → 136 ≠ t → (w.setCell ⟨g, k * 3 + 1, none⟩ u).ownsRow base t sz v n xs := fun ho ht => hk.own ho (fun q hq1 hq2 => own_apart h.row ho ht q (by rw [hq2]; rfl) hq1)
  refine ⟨ldRow_put1 h.row, fun i hi => ?_, fun i hi => ?_, fun i hi => ?_, h.far.1, h.far.2.1.put hlim (fun b e => (hl.lt b e).1), h.far.2.2⟩
  · by_cases e : i = k
    · subst e; rw [setL_at]; exact far (h.st i hi) (by decide)
    · rw [setL_ne _ _ _ e]; exact far (h.st i hi) (by decide)
  · by_cases e : i = k
    · subst e; rw [atV_at, setL_at]; exact far (own_base hl hbl) (by decide)
    · rw [atV_ne _ _ _ _ e, setL_ne _ _ _ e]; exact far (h.ro i hi) (by decide)
  · by_cases e : i = k
    · subst e; rw [setL_at]; exact far (h.se i hi) (by decide)
    · rw [setL_ne _ _ _ e]; exact far (h.se i hi) (by decide)
theorem OwnLds.putSe {T : Nat → Seat} (h : OwnLds w base (.slice (some ⟨g, 0, none⟩) N c) N S A B C) (hlim : ∀ i, i < N → ∀ b, (C i).ownBlock = some b → b < lim) (hl : w.ownsRow lim 138 2 u n (seatList T n)) (hbl : base ≤ lim) :
    OwnLds (w.setCell ⟨g, k * 3 + 2, none⟩ u) base (.slice (some ⟨g, 0, none⟩) N c) N (setL S k { S k with sen := n, se := T }) A B (atV C k u) := by
  have hk : Kept w (w.setCell ⟨g, k * 3 + 2, none⟩ u) (fun x => x = g) := (Kept.refl w (fun x => x = g)).set (a := ⟨g, k * 3 + 2, none⟩) rfl _
  have far : ∀ {t sz n : Nat} {v : Value} {xs : List Value}, w.ownsRow base t sz v n xs → 136 ≠ t → (w.setCell ⟨g, k * 3 + 2, none⟩ u).ownsRow base t sz v n xs := fun ho ht => hk.own ho (fun q hq1 hq2 => own_apart h.row ho ht q (by rw [hq2]; rfl) hq1)
  refine ⟨ldRow_put2 h.row, fun i hi => ?_, fun i hi => ?_, fun i hi => ?_, h.far.1, h.far.2.1, h.far.2.2.put hlim (fun b e => (hl.lt b e).1)⟩
  · by_cases e : i = k
    · subst e; rw [setL_at]; exact far (h.st i hi) (by decide)
    · rw [setL_ne _ _ _ e]; exact far (h.st i hi) (by decide)
  · by_cases e : i = k
    · subst e; rw [setL_at]; exact far (h.ro i hi) (by decide)
    · rw [setL_ne _ _ _ e]; exact far (h.ro i hi) (by decide)
  · by_cases e : i = k
    · subst e; rw [atV_at, setL_at]; exact far (own_base hl hbl) (by decide)
    · rw [atV_ne _ _ _ _ e, setL_ne _ _ _ e]; exact far (h.se i hi) (by decide)
end
section
variable {w w' : World} {base g c k lim n n1 n2 n3 : Nat} {v1 v3 u : Value} {x : Off} {L C A B D E : Nat → Value}
theorem OwnOff.putSt {T : Nat → Stay} (h : OwnOff w base v1 (.slice (some ⟨g, 0, none⟩) n2 c) v3 n1 n2 n3 x L C A B D E) (hlim : ∀ i, i < n2 → ∀ b, (A i).ownBlock = some b → b < lim) (hl : w.ownsRow lim 186 4 u n (stayList T n)) (hbl : base ≤ lim) :
    OwnOff (w.setCell ⟨g, k * 3 + 0, none⟩ u) base v1 (.slice (some ⟨g, 0, none⟩) n2 c) v3 n1 n2 n3 { x with ld := setL x.ld k { x.ld k with stn := n, st := T } } L C (atV A k u) B D E := by
  have hk : Kept w (w.setCell ⟨g, k * 3 + 0, none⟩ u) (fun x => x = g) := (Kept.refl w (fun x => x = g)).set (a := ⟨g, k * 3 + 0, none⟩) rfl _
  exact ⟨h.sa.other hk (fun q e => by obtain ⟨cs, e2⟩ := own_blockE h.ld.row q (by rw [show q = g from e]; rfl); exact ⟨cs, _, e2, by decide, by decide, by decide⟩), h.ld.putSt hlim hl hbl, h.bk.other hk (fun q e => by obtain ⟨cs, e2⟩ := own_blockE h.ld.row q (by rw [show q = g from e]; rfl); exact ⟨cs, _, e2, by decide, by decide⟩)⟩
theorem OwnOff.putRo {T : Nat → Room} (h : OwnOff w base v1 (.slice (some ⟨g, 0, none⟩) n2 c) v3 n1 n2 n3 x L C A B D E) (hlim : ∀ i, i < n2 → ∀ b, (B i).ownBlock = some b → b < lim) (hl : w.ownsRow lim 190 4 u n (roomList T n)) (hbl : base ≤ lim) :
    OwnOff (w.setCell ⟨g, k * 3 + 1, none⟩ u) base v1 (.slice (some ⟨g, 0, none⟩) n2 c) v3 n1 n2 n3 { x with ld := setL x.ld k { x.ld k with ron := n, ro := T } } L C A (atV B k u) D E := by
  have hk : Kept w (w.setCell ⟨g, k * 3 + 1, none⟩ u) (fun x => x = g) := (Kept.refl w (fun x => x = g)).set (a := ⟨g, k * 3 + 1, none⟩) rfl _
  exact ⟨h.sa.other hk (fun q e => by obtain ⟨cs, e2⟩ := own_blockE h.ld.row q (by rw [show q = g from e]; rfl); exact ⟨cs, _, e2, by decide, by decide, by decide⟩), h.ld.putRo hlim hl hbl, h.bk.other hk (fun q e => by obtain ⟨cs, e2⟩ := own_blockE h.ld.row q (by rw [show q = g from e]; rfl); exact ⟨cs, _, e2, by decide, by decide⟩)⟩
theorem OwnOff.putSe {T : Nat → Seat} (h : OwnOff w base v1 (.slice (some ⟨g, 0, none⟩) n2 c) v3 n1 n2 n3 x L C A B D E) (hlim : ∀ i, i < n2 → ∀ b, (D i).ownBlock = some b → b < lim) (hl : w.ownsRow lim 138 2 u n (seatList T n)) (hbl : base ≤ lim) :
    OwnOff (w.setCell ⟨g, k * 3 + 2, none⟩ u) base v1 (.slice (some ⟨g, 0, none⟩) n2 c) v3 n1 n2 n3 { x with ld := setL x.ld k { x.ld k with sen := n, se := T } } L C A B (atV D k u) E := by
  have hk : Kept w (w.setCell ⟨g, k * 3 + 2, none⟩ u) (fun x => x = g) := (Kept.refl w (fun x => x = g)).set (a := ⟨g, k * 3 + 2, none⟩) rfl _
  exact ⟨h.sa.other hk (fun q e => by obtain ⟨cs, e2⟩ := own_blockE h.ld.row q (by rw [show q = g from e]; rfl); exact ⟨cs, _, e2, by decide, by decide, by decide⟩), h.ld.putSe hlim hl hbl, h.bk.other hk (fun q e => by obtain ⟨cs, e2⟩ := own_blockE h.ld.row q (by rw [show q = g from e]; rfl); exact ⟨cs, _, e2, by decide, by decide⟩)⟩
end

end Go.Proofs.YtfallpinmhbemaaGreatDoor

namespace Go.Proofs.YtfallpinmhbemaaGreatDoor
open Go.RowKit

def setB (S : Nat → Book) (k : Nat) (b : Book) (i : Nat) : Book := if i = k then b else S i
theorem setB_at (S : Nat → Book) (k : Nat) (b : Book) : setB S k b k = b := if_pos rfl
theorem setB_ne (S : Nat → Book) (k : Nat) (b : Book) {i : Nat} (h : i ≠ k) : setB S k b i = S i := if_neg h
theorem setB_setB (S : Nat → Book) (k : Nat) (a b : Book) : setB (setB S k a) k b = setB S k b := by
  funext i
  unfold setB
  split <;> rfl
/-- The booking behind an operation that names it. -/
def endBook (b : Book) (bys : Int) (y : OpD) : Book :=
  if y.kind = 4 then { b with state := 2, unt := 0 }
  else if y.kind = 5 then { b with who := bys, lgn := y.lgn, lg := y.lg, pe := y.pe, len := y.len, hei := y.hei, cl := y.cl, all := y.all, be := y.be, price := priceOf ⟨y.pe, y.len, y.hei, y.cl, y.all, y.be⟩ y.lgn }
  else if y.kind = 6 then { b with state := 3, unt := 0 }
  else if y.kind = 7 then { b with own := y.own }
  else { b with state := 4 }
/-- A new booking. -/
def newBook (n : Nat) (bys : Int) (y : OpD) : Book :=
  ⟨(n : Int) + 1, bys, y.own, y.lgn, y.lg, y.pe, y.len, y.hei, y.cl, y.all, y.be, if y.kind = 2 then 1 else 2, if y.kind = 2 then y.unt else 0, priceOf ⟨y.pe, y.len, y.hei, y.cl, y.all, y.be⟩ y.lgn⟩
theorem rec_put (sz : Nat) (hsz : 0 < sz) {C C' : Nat → List Value} {f : Nat → Value} {k : Nat} (h1 : ∀ r, r < sz → f (k * sz + r) = (C' k).getD r (.bool false)) (h2 : ∀ j, j / sz ≠ k → f j = recCell sz C j) (h3 : ∀ i, i ≠ k → C' i = C i) (j : Nat) : f j = recCell sz C' j := by
  by_cases e : j / sz = k
  · have hj : j = k * sz + j % sz := by rw [← e, Nat.mul_comm]; exact (Nat.div_add_mod j sz).symm
    rw [hj, h1 _ (Nat.mod_lt _ hsz), recCell_at sz _ _ _ (Nat.mod_lt _ hsz)]
  · rw [h2 j e]
    unfold recCell
    rw [h3 _ e]
section
variable {w w' : World} {base g c k N : Nat} {S : Nat → Book} {E : Nat → Value} {u : Value} {y : Book}
theorem OwnBks.put (h : OwnBks w base (.slice (some ⟨g, 0, none⟩) N c) N S E) (hk : Kept w w' (fun b => b = g)) (hrow : w'.ownsRow base 131 13 (.slice (some ⟨g, 0, none⟩) N c) N (bkRow (setB S k y) (atV E k u) N)) (hl : w.ownsRow base 3 1 u y.lgn (intList y.lg y.lgn)) (hf : ∀ i, i < N → i ≠ k → ∀ b, (E i).ownBlock = some b → u.ownBlock ≠ some b) :
    OwnBks w' base (.slice (some ⟨g, 0, none⟩) N c) N (setB S k y) (atV E k u) := by
  have far : ∀ {n : Nat} {v : Value} {xs : List Value}, w.ownsRow base 3 1 v n xs → w'.ownsRow base 3 1 v n xs := fun ho => hk.own ho (fun q hq1 hq2 => own_apart h.row ho (by decide) q (by rw [hq2]; rfl) hq1)
  refine ⟨hrow, fun i hi => ?_, fun i j hij hj b h1 h2 => ?_⟩
  · by_cases e : i = k
    · subst e; rw [atV_at, setB_at]; exact far hl
    · rw [atV_ne _ _ _ _ e, setB_ne _ _ _ e]; exact far (h.legs i hi)
  · by_cases e : i = k
    · subst e
      rw [atV_at] at h1
      rw [atV_ne _ _ _ _ (by omega)] at h2
      exact hf j hj (by omega) b h2 h1
    · rw [atV_ne _ _ _ _ e] at h1
      by_cases e2 : j = k
      · subst e2
        rw [atV_at] at h2
        exact hf i (by omega) e b h1 h2
      · rw [atV_ne _ _ _ _ e2] at h2
        exact h.apart i j hij hj b h1 h2
theorem OwnBks.far_same (h : OwnBks w base (.slice (some ⟨g, 0, none⟩) N c) N S E) (hk : k < N) : ∀ i, i < N → i ≠ k → ∀ b, (E i).ownBlock = some b → (E k).ownBlock ≠ some b := fun i hi hne b h1 h2 => by
  rcases Nat.lt_or_gt_of_ne hne with c | c
  · exact h.apart i k c hk b h1 h2
  · exact h.apart k i c hi b h2 h1
end
section
variable {w w' : World} {base g c k n1 n2 n3 : Nat} {v1 v2 u : Value} {x : Off} {L C A B D E : Nat → Value} {y : Book}
theorem OwnOff.putBk (h : OwnOff w base v1 v2 (.slice (some ⟨g, 0, none⟩) n3 c) n1 n2 n3 x L C A B D E) (hk : Kept w w' (fun b => b = g)) (hrow : w'.ownsRow base 131 13 (.slice (some ⟨g, 0, none⟩) n3 c) n3 (bkRow (setB x.bk k y) (atV E k u) n3)) (hl : w.ownsRow base 3 1 u y.lgn (intList y.lg y.lgn)) (hf : ∀ i, i < n3 → i ≠ k → ∀ b, (E i).ownBlock = some b → u.ownBlock ≠ some b) :
    OwnOff w' base v1 v2 (.slice (some ⟨g, 0, none⟩) n3 c) n1 n2 n3 { x with bk := setB x.bk k y } L C A B D (atV E k u) :=
  ⟨h.sa.other hk (fun q e => by obtain ⟨cs, e2⟩ := own_blockE h.bk.row q (by rw [show q = g from e]; rfl); exact ⟨cs, _, e2, by decide, by decide, by decide⟩), h.ld.other hk (fun q e => by obtain ⟨cs, e2⟩ := own_blockE h.bk.row q (by rw [show q = g from e]; rfl); exact ⟨cs, _, e2, by decide, by decide, by decide, by decide⟩), h.bk.put hk hrow hl hf⟩
end
/-- What l7End leaves: an answer, the office in its box, nothing else written. -/
def EndIs (g base N csa cld : Nat) (asa ald : Option Addr) (T : Nat → Prop) (x' : Off) (code name price : Int) (RW : World → Value → Prop) (L C A B D : Nat → Value) (w : World) (e : Ending) (w' : World) : Prop :=
  ∃ abk cbk rv E, e = .returned (.agg #[.int .i64 code, .int .i64 name, .int .i64 price, rv]) ∧ RW w' rv ∧ OwnOff w' base (.slice asa N csa) (.slice ald N cld) (.slice abk x'.bkn cbk) N N x'.bkn x' L C A B D E ∧
    w'.heap[g]? = some (.cells #[.slice asa N csa, .slice ald N cld, .slice abk x'.bkn cbk] 66 (0, 0)) ∧ Kept w w' T
theorem ans_set {w : World} {g t : Nat} {u0 u1 u2 u3 : Value} (h : w.heap[g]? = some (.cells #[u0, u1, u2, u3] t (0, 0))) (v0 v1 v2 v3 : Value) : ((((w.setCell ⟨g, 0, none⟩ v0).setCell ⟨g, 1, none⟩ v1).setCell ⟨g, 2, none⟩ v2).setCell ⟨g, 3, none⟩ v3).heap[g]? = some (.cells #[v0, v1, v2, v3] t (0, 0)) := by
  simpa using blk_set (blk_set (blk_set (blk_set h 0 v0) 1 v1) 2 v2) 3 v3
theorem ans_keep (w : World) (g : Nat) (v0 v1 v2 v3 : Value) : Kept w ((((w.setCell ⟨g, 0, none⟩ v0).setCell ⟨g, 1, none⟩ v1).setCell ⟨g, 2, none⟩ v2).setCell ⟨g, 3, none⟩ v3) (fun b => b = g) := ((((Kept.refl w (fun b => b = g)).set (a := ⟨g, 0, none⟩) rfl v0).set (a := ⟨g, 1, none⟩) rfl v1).set (a := ⟨g, 2, none⟩) rfl v2).set (a := ⟨g, 3, none⟩) rfl v3
theorem ans_at2 {w : World} {g t : Nat} {u0 u1 u2 u3 : Value} (h : w.heap[g]? = some (.cells #[u0, u1, u2, u3] t (0, 0))) (v : Value) : (w.setCell ⟨g, 2, none⟩ v).heap[g]? = some (.cells #[u0, u1, v, u3] t (0, 0)) := by simpa using blk_set h 2 v

theorem keptN {w w' : World} {T : Nat → Prop} (h : Kept w w' T) {b i : Nat} (hb : w.heap.size ≤ b) (u : Value) : Kept w (w'.setCell ⟨b, i, none⟩ u) T :=
  ⟨h.os, h.tape, h.output, by have := h.size; simpa using this, fun k hk hs => (Below.heap_setCell w' ⟨b, i, none⟩ u k (by show k ≠ b; omega)).trans (h.block k hk hs)⟩
theorem ints_off {w w' : World} {ao : Option Addr} {n base gb : Nat} {F : Nat → Int} (hk : Kept w w' (fun b => b = gb)) (h : IntsAt w ao n F) (hlo : 0 < n → ∀ a, ao = some a → a.block < base) (hg : base ≤ gb) : IntsAt w' ao n F := fun k hkn => by
  obtain ⟨b, off, rfl, hc⟩ := h k hkn
  have hb : b < base := hlo (by omega) _ rfl
  have hq := hk.block b (World.block_lt_of_cell? w _ hc) (by show ¬ b = gb; omega)
  refine ⟨b, off, rfl, ?_⟩
  rw [← hc]
  unfold World.cell?
  simp only [hq]
theorem kept_cell {w w' : World} {T : Nat → Prop} (h : Kept w w' T) {a : Addr} {v : Value} (hc : w.cell? a = some v) (hs : ¬ T a.block) : w'.cell? a = some v := by
  have := h.block a.block (World.block_lt_of_cell? w _ hc) hs
  unfold World.cell? at hc ⊢
  rw [this]; exact hc
/-- An answer is stored into its box. -/
theorem end_fin {w Z : World} {T : Nat → Prop} {g ab base n1 n2 n3 : Nat} {v1 v2 v3 o1 o2 o3 u0 u1 u2 u3 : Value} {x : Off} {L C A B D E : Nat → Value} (hkw : Kept w Z T) (hoz : OwnOff Z base v1 v2 v3 n1 n2 n3 x L C A B D E) (hq : Z.heap[g]? = some (.cells #[o1, o2, o3] 66 (0, 0))) (hbA : Z.heap[ab]? = some (.cells #[u0, u1, u2, u3] 127 (0, 0))) (hab : w.heap.size ≤ ab) (c0 c1 c2 c3 : Value) {F : World} (hF : F = (((Z.setCell ⟨ab, 0, none⟩ c0).setCell ⟨ab, 1, none⟩ c1).setCell ⟨ab, 2, none⟩ c2).setCell ⟨ab, 3, none⟩ c3) :
    OwnOff F base v1 v2 v3 n1 n2 n3 x L C A B D E ∧ F.heap[g]? = some (.cells #[o1, o2, o3] 66 (0, 0)) ∧ Kept w F T ∧ F.heap[ab]? = some (.cells #[c0, c1, c2, c3] 127 (0, 0)) := by
  subst hF
  have hne : g ≠ ab := fun e => by subst e; rw [hq] at hbA; simp at hbA
  exact ⟨hoz.box (ans_keep _ _ _ _ _ _) hbA (by decide), (ans_keep _ _ _ _ _ _).blk hq hne, keptN (keptN (keptN (keptN hkw hab _) hab _) hab _) hab _, ans_set hbA _ _ _ _⟩
theorem end_price {w Z : World} {T : Nat → Prop} {g ab tb base n1 n2 n3 : Nat} {v1 v2 v3 o1 o2 o3 u0 u1 u2 u3 q0 q1 q2 q3 : Value} {x : Off} {L C A B D E : Nat → Value} (hkw : Kept w Z T) (hoz : OwnOff Z base v1 v2 v3 n1 n2 n3 x L C A B D E) (hq : Z.heap[g]? = some (.cells #[o1, o2, o3] 66 (0, 0))) (hbA : Z.heap[ab]? = some (.cells #[u0, u1, u2, u3] 127 (0, 0))) (hbT : Z.heap[tb]? = some (.cells #[q0, q1, q2, q3] 127 (0, 0))) (hne2 : ab ≠ tb) (htb : w.heap.size ≤ tb) (p : Value) {F : World} (hF : F = Z.setCell ⟨tb, 2, none⟩ p) :
    OwnOff F base v1 v2 v3 n1 n2 n3 x L C A B D E ∧ F.heap[g]? = some (.cells #[o1, o2, o3] 66 (0, 0)) ∧ Kept w F T ∧ F.heap[ab]? = some (.cells #[u0, u1, u2, u3] 127 (0, 0)) ∧ F.heap[tb]? = some (.cells #[q0, q1, p, q3] 127 (0, 0)) := by
  subst hF
  have hne : g ≠ tb := fun e => by subst e; rw [hq] at hbT; simp at hbT
  have hk : Kept Z (Z.setCell ⟨tb, 2, none⟩ p) (fun b => b = tb) := (Kept.refl Z (fun b => b = tb)).set (a := ⟨tb, 2, none⟩) rfl p
  exact ⟨hoz.box hk hbT (by decide), hk.blk hq hne, keptN hkw htb _, hk.blk hbA hne2, ans_at2 hbT p⟩

end Go.Proofs.YtfallpinmhbemaaGreatDoor

namespace Go.Proofs.YtfallpinmhbemaaGreatDoor
open Go.RowKit

theorem legs_later {N n : Nat} {S : Nat → Sail} {G : Nat → Int} (hT : GoodTab N S) (h : LegsOk N S n G) : ∀ d j, j + d + 1 < n → (S (findIx S (G j) N)).arr ≤ (S (findIx S (G (j + d + 1)) N)).dep := by
  intro d
  induction d with
  | zero =>
    intro j hj
    have := (h.2.2 (j + 1) (by omega)).2 (by omega)
    simpa using this.2
  | succ d ih =>
    intro j hj
    have h1 := ih j (by omega)
    have h2 := ((h.2.2 (j + (d + 1) + 1) (by omega)).2 (by omega)).2
    have h3 := (hT.2 _ (h.2.2 (j + d + 1) (by omega)).1).1
    have e : j + (d + 1) + 1 - 1 = j + d + 1 := by omega
    rw [e] at h2
    have h4 : (S (findIx S (G (j + d + 1)) N)).dep < (S (findIx S (G (j + d + 1)) N)).arr := h3.2.2.2.2.2.1
    omega
/-- Legs that fit differ. -/
theorem legs_differ {N n : Nat} {S : Nat → Sail} {G : Nat → Int} (hT : GoodTab N S) (h : LegsOk N S n G) : ∀ i, i < n → ∀ j, j < i → G j ≠ G i := fun i hi j hj e => by
  obtain ⟨d, rfl⟩ : ∃ d, i = j + d + 1 := ⟨i - j - 1, by omega⟩
  have h1 := legs_later hT h d j hi
  rw [← e] at h1
  have h3 := (hT.2 _ (h.2.2 j (by omega)).1).1
  have h4 : (S (findIx S (G j) N)).dep < (S (findIx S (G j) N)).arr := h3.2.2.2.2.2.1
  omega
/-- A work whose sailing is there, and that may come if it comes. -/
def WkOk (x : Off) (v : Wk) : Prop := v.res < 3 ∧ findIx x.sa v.leg x.san < x.san ∧ (v.goes = false → In v.who 1 9999 ∧ PartyOk v.p ∧ usesP v.p.len v.p.cl v.res = true)
/-- No fault of an operation: what it names, m. -/
def NoFault (x : Off) (y : OpD) (m : Nat) : Prop := OpOk y ∧ ¬ RouteBad x.san x y ∧ (In y.kind 4 8 → y.name = (m : Int) + 1 ∧ m < x.bkn ∧ ¬ BarredB (x.bk m) y)
theorem NoFault.legs {x : Off} {y : OpD} {m : Nat} (h : NoFault x y m) (hk : HasLegs y.kind) : LegsOk x.san x.sa y.lgn y.lg := by
  by_cases c : LegsOk x.san x.sa y.lgn y.lg
  · exact c
  · exact absurd (.inl ⟨hk, c⟩) h.2.1
theorem NoFault.party {x : Off} {y : OpD} {m : Nat} (h : NoFault x y m) (hk : HasLegs y.kind) : PartyOk ⟨y.pe, y.len, y.hei, y.cl, y.all, y.be⟩ := by
  have := h.1.2.2.2.2.1
  unfold PartyOkFor at this
  rw [if_pos hk] at this
  exact this
theorem frees_named {k : Int} (h : FreesK k) : In k 4 8 := by
  unfold FreesK at h
  unfold In
  omega
theorem works_fit {x : Off} {y : OpD} {m : Nat} {bys : Int} (hO : OffOk x) (hf : NoFault x y m) (hb : In bys 1 9999) (hx : ∀ i, i < x.bkn → (x.bk i).who ≠ bys) :
    (worksOf x bys y m).Pairwise Differ ∧ ∀ v ∈ worksOf x bys y m, Apt x x.ld v ∧ WkOk x v := by
  have hT := hO.1
  have hbk : FreesK y.kind → m < x.bkn ∧ Live (x.bk m) ∧ LegsOk x.san x.sa (x.bk m).lgn (x.bk m).lg := fun hk => by
    obtain ⟨_, h2, h3⟩ := hf.2.2 (frees_named hk)
    refine ⟨h2, ?_, (hO.2.2.2.2.1 m h2).2.2.2.1⟩
    by_cases c : Live (x.bk m)
    · exact c
    · exact absurd (.inl c) h3
  constructor
  · unfold worksOf
    by_cases h1 : FreesK y.kind
    · obtain ⟨hm, hl, hlg⟩ := hbk h1
      rw [if_pos h1]
      by_cases h2 : HasLegs y.kind
      · rw [if_pos h2]
        exact works_differ (legs_differ hT hlg) (legs_differ hT (hf.legs h2)) (hx m hm)
      · rw [if_neg h2, List.append_nil]
        exact wksTo_differ _ _ _ _ _ (legs_differ hT hlg)
    · rw [if_neg h1, List.nil_append]
      by_cases h2 : HasLegs y.kind
      · rw [if_pos h2]
        exact wksTo_differ _ _ _ _ _ (legs_differ hT (hf.legs h2))
      · rw [if_neg h2]
        exact List.Pairwise.nil
  · intro v hv
    unfold worksOf at hv
    rcases List.mem_append.1 hv with hv | hv
    · by_cases h1 : FreesK y.kind
      · rw [if_pos h1] at hv
        obtain ⟨hm, hl, hlg⟩ := hbk h1
        refine ⟨hO.apt_goes hm hl rfl rfl hv, ?_⟩
        obtain ⟨⟨i, hi, e⟩, hr, hg, _⟩ := wksTo_mem hv
        exact ⟨hr, by rw [e]; exact (hlg.2.2 i hi).1, fun c => by rw [hg] at c; cases c⟩
      · rw [if_neg h1] at hv
        cases hv
    · by_cases h2 : HasLegs y.kind
      · rw [if_pos h2] at hv
        refine ⟨hO.apt_comes hx hv, ?_⟩
        obtain ⟨⟨i, hi, e⟩, hr, hg, hw, hp, hu⟩ := wksTo_mem hv
        refine ⟨hr, by rw [e]; exact ((hf.legs h2).2.2 i hi).1, fun _ => ?_⟩
        rw [hw, hp]
        exact ⟨hb, hf.party h2, hu⟩
      · rw [if_neg h2] at hv
        cases hv
/-- All these works are done: from loads L to loads M. -/
inductive Done (x : Off) : List Wk → (Nat → Load) → (Nat → Load) → Prop
  | nil (L : Nat → Load) : Done x [] L L
  | snoc (l : List Wk) (L M : Nat → Load) (v : Wk) (k : Nat) (z : Load) (h : Done x l L M) (hk : findIx x.sa v.leg x.san = k) (hl : k < x.san) (hw : WorkIs (x.sa k) v (M k) 0 z) : Done x (l ++ [v]) L (setL M k z)
/-- How things stand behind the first works. -/
structure Stand (x : Off) (l : List Wk) (j : Nat) (M : Nat → Load) : Prop where
  done : Done x (l.take j) x.ld M
  good : ∀ i, i < x.san → LoadOk (x.sa i) (M i)
  apt : ∀ v ∈ l.drop j, Apt x M v
theorem Stand.start {x : Off} {l : List Wk} (hO : OffOk x) (ha : ∀ v ∈ l, Apt x x.ld v) : Stand x l 0 x.ld :=
  ⟨by rw [List.take_zero]; exact .nil _, hO.2.2.2.1, by rw [List.drop_zero]; exact ha⟩
theorem Stand.comes {x : Off} {l : List Wk} {j : Nat} {M : Nat → Load} {v : Wk} {k : Nat} (h : Stand x l j M) (hj : l[j]? = some v) (hk : findIx x.sa v.leg x.san = k) (hl : k < x.san) (hw : WkOk x v) : ComesOk v (M k) := fun hg => by
  obtain ⟨h1, h2, h3⟩ := hw.2.2 hg
  refine ⟨h1, h2, h3, ?_⟩
  have hm : v ∈ l.drop j := by
    rw [List.mem_iff_getElem?]
    exact ⟨0, by rw [List.getElem?_drop]; simpa using hj⟩
  have := (h.apt v hm).2 k hl (by rw [← hk]; exact findIx_at _ _ _ (by rw [hk]; exact hl))
  rw [if_neg (by rw [hg]; decide)] at this
  exact this
theorem Stand.there {x : Off} {l : List Wk} {j : Nat} {M : Nat → Load} {v : Wk} {k : Nat} (h : Stand x l j M) (hj : l[j]? = some v) (hk : findIx x.sa v.leg x.san = k) (hl : k < x.san) (hg : v.goes = true) : hasAt (M k) v.res v.who := by
  have hm : v ∈ l.drop j := by
    rw [List.mem_iff_getElem?]
    exact ⟨0, by rw [List.getElem?_drop]; simpa using hj⟩
  have := (h.apt v hm).2 k hl (by rw [← hk]; exact findIx_at _ _ _ (by rw [hk]; exact hl))
  rw [if_pos hg] at this
  exact this
/-- One work more is done. -/
theorem Stand.next {x : Off} {l : List Wk} {j : Nat} {M : Nat → Load} {v : Wk} {k : Nat} {z : Load} (h : Stand x l j M) (hd : l.Pairwise Differ) (hj : l[j]? = some v) (hk : findIx x.sa v.leg x.san = k) (hl : k < x.san) (hw : WkOk x v) (hz : WorkIs (x.sa k) v (M k) 0 z) : Stand x l (j + 1) (setL M k z) := by
  have hon : WorkOn (x.sa k) v (M k) z := by
    rcases hz.on (h.good k hl) (h.comes hj hk hl hw) with ⟨_, h⟩ | ⟨h, _⟩
    · exact h
    · unfold In at h; omega
  have hid : (x.sa k).id = v.leg := by rw [← hk]; exact findIx_at _ _ _ (by rw [hk]; exact hl)
  have hjl : j < l.length := (List.getElem?_eq_some_iff.1 hj).1
  have hdr : l.drop j = v :: l.drop (j + 1) := by
    rw [List.drop_eq_getElem_cons hjl]
    congr 1
    exact (List.getElem?_eq_some_iff.1 hj).2
  refine ⟨?_, good_after h.good hon, fun u hu => ?_⟩
  · rw [List.take_add_one, hj]
    exact .snoc _ _ _ _ k z h.done hk hl hz
  · refine (h.apt u (by rw [hdr]; exact List.mem_cons_of_mem _ hu)).after hid hon ?_
    have h2 : (l.drop j).Pairwise Differ := hd.sublist (List.drop_sublist _ _)
    rw [hdr, List.pairwise_cons] at h2
    have h3 := h2.1 u hu
    rcases h3 with h3 | h3 | h3
    · exact .inl (fun e => h3 e.symm)
    · exact .inr (.inl (fun e => h3 e.symm))
    · exact .inr (.inr (fun e => h3 e.symm))

end Go.Proofs.YtfallpinmhbemaaGreatDoor
