/-
  OWN TEXT: SameRw, LawClerks, Views.
-/
import Derived.ProofKit
import Derived.OpenShut
import Derived.ChangeOld
import Derived.SizedLaws
import Derived.Deep.Slices
import Derived.Deep.Strs
import Derived.Lib.SmallJoins
import Derived.Test.YtogbaoggebghdaaB21
import Derived.Test.YtogbaoggebghdaaXerks07
import Derived.Test.YtogbaoggebghdaaXerks08
import Derived.Test.YtogbaoggebghdaaB00
namespace Go.Proofs.Ytogbaoggebghdaa
open Go.RowKit Classical

set_option maxHeartbeats 1600000 in
set_option maxRecDepth 100000 in
theorem sameRows_yes (ao bo : Option Addr) (n c d : Nat) (S : Nat → MRow) (w : World) (hn : n ≤ 1048576) (hx : MRowsAt w ao n S) (hy : MRowsAt w bo n S) :
    Calls Try.prog 13 #[.slice ao n c, .slice bo n d] w fun e w' => e = .returned (.bool true) ∧ Below w.heap.size w w' := by
  have HX : Hid (MRowsAt w ao n S) := hx
  have HY : Hid (MRowsAt w bo n S) := hy
  clear hx hy
  have hne : ((n : Int) != (n : Int)) = false := by simp
  go_enter Try.func13, Try.ntmps13
  go_wp2
  go_loopw [5, 13] (fun _ i wr => ∃ k : Nat, k ≤ n ∧ i = .int .i64 k ∧ Below w.heap.size w wr) (fun _ i _ => n - (intOf i).toNat)
  case atStart => exact ⟨0, Nat.zero_le _, rfl, Below.refl _ _⟩
  case round =>
    obtain ⟨k, hk, rfl, hbel⟩ := hrel
    by_cases hlt : k < n
    · obtain ⟨b, off, rfl, g0, g1, g2, g3, g4⟩ := HX.out k hlt
      obtain ⟨b2, off2, rfl, f0, f1, f2, f3, f4⟩ := HY.out k hlt
      have l1 : b < w.heap.size := World.block_lt_of_cell? w _ g0
      have l2 : b2 < w.heap.size := World.block_lt_of_cell? w _ f0
      have i1 : (0 : Int) ≤ (k : Int) := by omega
      have i2 : (k : Int) < (n : Int) := by omega
      have z0 : ∀ g : Grown wr, g.val.cell? ⟨b, off + k * 5, none⟩ = some (.int .i64 (S k).name) := fun g => ((hbel.trans (g.bel.mono hbel.size)).cell (p := ⟨b, off + k * 5, none⟩) l1).trans g0
      have y0 : ∀ g : Grown wr, g.val.cell? ⟨b2, off2 + k * 5, none⟩ = some (.int .i64 (S k).name) := fun g => ((hbel.trans (g.bel.mono hbel.size)).cell (p := ⟨b2, off2 + k * 5, none⟩) l2).trans f0
      have z1 : ∀ g : Grown wr, g.val.cell? ⟨b, off + k * 5 + 1, none⟩ = some (.string (S k).own) := fun g => ((hbel.trans (g.bel.mono hbel.size)).cell (p := ⟨b, off + k * 5 + 1, none⟩) l1).trans g1
      have y1 : ∀ g : Grown wr, g.val.cell? ⟨b2, off2 + k * 5 + 1, none⟩ = some (.string (S k).own) := fun g => ((hbel.trans (g.bel.mono hbel.size)).cell (p := ⟨b2, off2 + k * 5 + 1, none⟩) l2).trans f1
      have z2 : ∀ g : Grown wr, g.val.cell? ⟨b, off + k * 5 + 2, none⟩ = some (.int .i64 (S k).pe) := fun g => ((hbel.trans (g.bel.mono hbel.size)).cell (p := ⟨b, off + k * 5 + 2, none⟩) l1).trans g2
      have y2 : ∀ g : Grown wr, g.val.cell? ⟨b2, off2 + k * 5 + 2, none⟩ = some (.int .i64 (S k).pe) := fun g => ((hbel.trans (g.bel.mono hbel.size)).cell (p := ⟨b2, off2 + k * 5 + 2, none⟩) l2).trans f2
      have z3 : ∀ g : Grown wr, g.val.cell? ⟨b, off + k * 5 + 3, none⟩ = some (.int .i64 (S k).ln) := fun g => ((hbel.trans (g.bel.mono hbel.size)).cell (p := ⟨b, off + k * 5 + 3, none⟩) l1).trans g3
      have y3 : ∀ g : Grown wr, g.val.cell? ⟨b2, off2 + k * 5 + 3, none⟩ = some (.int .i64 (S k).ln) := fun g => ((hbel.trans (g.bel.mono hbel.size)).cell (p := ⟨b2, off2 + k * 5 + 3, none⟩) l2).trans f3
      have z4 : ∀ g : Grown wr, g.val.cell? ⟨b, off + k * 5 + 4, none⟩ = some (.int .i64 (S k).cab) := fun g => ((hbel.trans (g.bel.mono hbel.size)).cell (p := ⟨b, off + k * 5 + 4, none⟩) l1).trans g4
      have y4 : ∀ g : Grown wr, g.val.cell? ⟨b2, off2 + k * 5 + 4, none⟩ = some (.int .i64 (S k).cab) := fun g => ((hbel.trans (g.bel.mono hbel.size)).cell (p := ⟨b2, off2 + k * 5 + 4, none⟩) l2).trans f4
      have qn : ∀ w, (binOp .neq 84 (.agg #[.int .i64 (S k).name, .string (S k).own, .int .i64 (S k).pe, .int .i64 (S k).ln, .int .i64 (S k).cab]) (.agg #[.int .i64 (S k).name, .string (S k).own, .int .i64 (S k).pe, .int .i64 (S k).ln, .int .i64 (S k).cab])).run Try.prog w = .ok (.bool false) w := fun w => by rw [row_neq (S k) (S k) w, decide_eq_true rfl]; rfl
      clear g0 f0 g1 f1 g2 f2 g3 f3 g4 f4
      go_upto_region 6 with fail
      refine wp_region_grow (by kernel_rfl) (by kernel_rfl) ?_
      repeat (first | go_big_quiet_skip | (go_big_quiet_want; go_big_quiet_op; go_big_quiet_on))
      refine wpQuiet_nil ?_
      rintro _ ⟨g, rfl⟩
      clear z0 y0 z1 y1 z2 y2 z3 y3 z4 y4 qn
      go_wp2
      go_roundw
      case rel => exact ⟨k + 1, by omega, by go_num, after hbel g.bel⟩
      case measure => simp [intOf]; omega
    · obtain rfl : k = n := by omega
      go_wp2
      go_ret
      exact ⟨rfl, hbel⟩

end Go.Proofs.Ytogbaoggebghdaa

namespace Go.Proofs.Ytogbaoggebghdaa
open Go.RowKit

set_option maxHeartbeats 12800000 in
set_option maxRecDepth 100000 in
theorem lawClerks (ao : Option Addr) (n c : Nat) (bo : Option Addr) (m d : Nat) (w : World) (hn : n ≤ 1000000000000000) (hx : BytesAt w ao n) (hm : m ≤ 1000000000000000) (hy : BytesAt w bo m) :
    Calls Try.prog 3 #[.slice ao n c, .slice bo m d] w fun e w' => e = .returned (.bool true) ∧ Below w.heap.size w w' := by
  have HX : Hid (BytesAt w ao n) := hx
  have HY : Hid (BytesAt w bo m) := hy
  clear hx hy
  by_cases hsz : n + m ≤ 1048576
  case neg =>
    have hd : decide ((1048576 : Int) < (n : Int) + (m : Int)) = true := by simp; omega
    go_enter Try.func3, Try.ntmps3
    go_wp2
    go_ret
    exact ⟨rfl, Below.refl _ _⟩
  have hd : decide ((1048576 : Int) < (n : Int) + (m : Int)) = false := by simp; omega
  go_enter Try.func3, Try.ntmps3
  go_wp2_with fail
  refine (drawAsk_any ao n c _ HX.out).mono ?_
  rintro e w1 ⟨⟨v, nm, num, rfl, hv, hnm⟩, HB⟩
  obtain ⟨av, N, cv, S, rfl, hN, hs, hl⟩ := hv
  have HL : Hid (ClkDsAt w1 av N S) := hl
  have HS : Hid (ClkDsShort N S 1048576) := hs
  clear hl hs
  go_wp2_with fail
  refine (implAskC_any av N cv S nm num _ (by omega) HS.out HL.out (by omega)).mono ?_
  rintro e w2 ⟨⟨v1, r1, N1, S1, R1, a1, z1, rfl, hO1, hz1⟩, hb⟩
  have HA1 := ask_short hz1.out (by omega) HS.out (by omega)
  obtain ⟨x1, y1, rfl, _⟩ := own_form hO1.own.row
  obtain ⟨p1, q1, rfl, _⟩ := own_form hO1.ans
  replace HL : Hid (ClkDsAt w2 av N S) := HL.out.below hb
  replace HB := after HB hb
  have hb2 : Below w2.heap.size w2 (w2.alloc (.cells #[.int .i64 a1.code, .int .i64 a1.anam, .int .i64 a1.price, .slice p1 a1.rwn q1] 28)) := push (Below.refl _ _) _
  have H1 : Hid (ClkDsAt (w2.alloc (.cells #[.int .i64 a1.code, .int .i64 a1.anam, .int .i64 a1.price, .slice p1 a1.rwn q1] 28)) x1 N1 S1) := hO1.own.at.below hb2
  replace HL : Hid (ClkDsAt (w2.alloc (.cells #[.int .i64 a1.code, .int .i64 a1.anam, .int .i64 a1.price, .slice p1 a1.rwn q1] 28)) av N S) := HL.out.below hb2
  replace HB := after HB hb2
  have HS1 : Hid (N1 ≤ 1048576 ∧ ClkDsShort N1 S1 1048576) := ⟨HA1.2.1, HA1.2.2.1⟩
  clear hb hb2 hO1 HA1
  go_upto_region 5 with fail
  generalize w2.alloc (.cells #[.int .i64 a1.code, .int .i64 a1.anam, .int .i64 a1.price, .slice p1 a1.rwn q1] 28) = w3 at HL H1 HB ⊢
  go_wp2_with fail
  refine (specAsk_any av N cv S nm num _ (by omega) HS.out HL.out (by omega)).mono ?_
  rintro e w4 ⟨⟨v2, r2, N2, S2, R2, a2, z2, rfl, hO2, hz2⟩, hb⟩
  obtain ⟨-, rfl, -, -⟩ := AskIs.one hz1.out hz2.out
  obtain ⟨x2, y2, rfl, _⟩ := own_form hO2.own.row
  obtain ⟨p2, q2, rfl, _⟩ := own_form hO2.ans
  have hb2 : Below w4.heap.size w4 (w4.alloc (.cells #[.int .i64 a2.code, .int .i64 a2.anam, .int .i64 a2.price, .slice p2 a2.rwn q2] 28)) := push (Below.refl _ _) _
  replace H1 : Hid (ClkDsAt (w4.alloc (.cells #[.int .i64 a2.code, .int .i64 a2.anam, .int .i64 a2.price, .slice p2 a2.rwn q2] 28)) x1 N1 S1) := (H1.out.below hb).below hb2
  replace HB := after (after HB hb) hb2
  clear hb hb2 hO2 hz2 HL
  have hne : (z2 != z2) = false := by simp
  go_upto_region 6 with fail
  generalize w4.alloc (.cells #[.int .i64 a2.code, .int .i64 a2.anam, .int .i64 a2.price, .slice p2 a2.rwn q2] 28) = w5 at H1 HB ⊢
  by_cases h0 : z2 = 0
  case neg =>
    have d0 : (z2 != 0) = true := by simpa using h0
    go_wp2
    go_ret
    exact ⟨rfl, HB⟩
  subst h0
  obtain ⟨ok, hnam, hin, k, hk, ek⟩ := ask_made hz1.out
  have HOK : Hid (ClerksOk N1 S1 ∧ IsName nm ∧ In num 1 1000000 ∧ S1 k = freshC nm num) := ⟨ok, hnam, hin, ek⟩
  clear ok hnam hin ek hne hz1
  go_wp2_with fail
  refine (implAskC_any x1 N1 y1 S1 nm num _ HS1.out.1 HS1.out.2 H1.out (by omega)).mono ?_
  rintro e w6 ⟨⟨v3, r3, N3, S3, R3, a3, z3, rfl, hO3, hz3⟩, hb⟩
  obtain ⟨-, rfl, -, -⟩ := AskIs.one (ask_open HOK.out.1 hk HOK.out.2.2.2 HOK.out.2.1 HOK.out.2.2.1) hz3.out
  obtain ⟨x3, y3, rfl, _⟩ := own_form hO3.own.row
  obtain ⟨p3, q3, rfl, _⟩ := own_form hO3.ans
  have hb2 : Below w6.heap.size w6 (w6.alloc (.cells #[.int .i64 a3.code, .int .i64 a3.anam, .int .i64 a3.price, .slice p3 a3.rwn q3] 28)) := push (Below.refl _ _) _
  replace H1 : Hid (ClkDsAt (w6.alloc (.cells #[.int .i64 a3.code, .int .i64 a3.anam, .int .i64 a3.price, .slice p3 a3.rwn q3] 28)) x1 N1 S1) := (H1.out.below hb).below hb2
  replace HB := after (after HB hb) hb2
  clear hb hb2 hO3 hz3
  go_upto_region 11 with fail
  generalize w6.alloc (.cells #[.int .i64 a3.code, .int .i64 a3.anam, .int .i64 a3.price, .slice p3 a3.rwn q3] 28) = w7 at H1 HB ⊢
  go_wp2_with fail
  refine (drawSettle_any bo m d _ (HY.out.below HB)).mono ?_
  rintro e w8 ⟨⟨v4, s4, x, _, ra, rc, rfl, rfl, hrw, hr1, hr2, hr3⟩, hb⟩
  have hb2 : Below w8.heap.size w8 (w8.alloc (.cells #[.int .i64 x.code, .int .i64 x.anam, .int .i64 x.price, .slice ra x.rwn rc] 28)) := push (Below.refl _ _) _
  have X : (w8.alloc (.cells #[.int .i64 x.code, .int .i64 x.anam, .int .i64 x.price, .slice ra x.rwn rc] 28)).heap[w8.heap.size]? = some (.cells #[.int .i64 x.code, .int .i64 x.anam, .int .i64 x.price, .slice ra x.rwn rc] 28 (0, 0)) := heap_alloc_new _ _
  replace H1 : Hid (ClkDsAt (w8.alloc (.cells #[.int .i64 x.code, .int .i64 x.anam, .int .i64 x.price, .slice ra x.rwn rc] 28)) x1 N1 S1) := (H1.out.below hb).below hb2
  have HR : Hid (MRowsAt (w8.alloc (.cells #[.int .i64 x.code, .int .i64 x.anam, .int .i64 x.price, .slice ra x.rwn rc] 28)) ra x.rwn x.rw ∧ (ra = none → x.rwn = 0 ∧ rc = 0)) := ⟨hrw.below hb2, hr3⟩
  have HXS : Hid (AnsD.Short x 1048576) := ⟨by omega, fun j hj => by have := hr2 j hj; omega⟩
  replace HB := after (after HB hb) hb2
  clear hb hb2 hrw hr2 hr3
  go_upto_region 12 with fail
  generalize w8.alloc (.cells #[.int .i64 x.code, .int .i64 x.anam, .int .i64 x.price, .slice ra x.rwn rc] 28) = w9 at X H1 HR HB ⊢
  obtain ⟨xB, hxB⟩ : ∃ u, u = w8.heap.size := ⟨_, rfl⟩
  rw [← hxB] at X ⊢
  clear hxB
  have q0 := blk_cell X 0 _ rfl
  have q1 := blk_cell X 1 _ rfl
  have q2 := blk_cell X 2 _ rfl
  have q3 := blk_cell X 3 _ rfl
  go_wp2_with fail
  clear q0 q1 q2 q3
  refine (implSettle_any x1 N1 y1 S1 nm x ra rc _ HS1.out.1 HS1.out.2 H1.out (by omega) (by omega) HR.out.1 HR.out.2).mono ?_
  rintro e wA ⟨⟨v5, N5, S5, R5, z5, rfl, hO5, hz5⟩, hb⟩
  obtain ⟨e1, rfl, hS5⟩ := SettleIs.one (settle_open HOK.out.1 hk HOK.out.2.2.2) hz5.out
  subst e1
  have HS5 : Hid (ClkDsShort N5 S5 1048576) := (settle_short hz5.out HS1.out.1 HS1.out.2 HXS.out).2
  obtain ⟨x5, y5, rfl, _⟩ := own_form hO5.row
  have H5 : Hid (ClkDsAt wA x5 N5 S5) := hO5.at
  have HT : Hid (AskIs N5 S5 nm num N5 S5 x 1) := ask_told HOK.out.1 hk HOK.out.2.2.2 HOK.out.2.1 HOK.out.2.2.1 hS5
  replace X := blk_below X hb
  replace HR : Hid (MRowsAt wA ra x.rwn x.rw ∧ (ra = none → x.rwn = 0 ∧ rc = 0)) := ⟨HR.out.1.below hb, HR.out.2⟩
  replace HB := after HB hb
  clear hb hO5 hz5 hS5
  go_wp2_with fail
  refine (implAskC_any x5 N5 y5 S5 nm num _ HS1.out.1 HS5.out H5.out (by omega)).mono ?_
  rintro e wC ⟨⟨v6, r6, N6, S6, R6, a6, z6, rfl, hO6, hz6⟩, hb⟩
  obtain ⟨-, rfl, e6, -⟩ := AskIs.one HT.out hz6.out
  have e6 := e6.symm
  subst e6
  obtain ⟨x6, y6, rfl, _⟩ := own_form hO6.own.row
  have hans := hO6.ans
  obtain ⟨p6, q6, rfl, _⟩ := own_form hans
  have hb2 : Below wC.heap.size wC (wC.alloc (.cells #[.int .i64 x.code, .int .i64 x.anam, .int .i64 x.price, .slice p6 x.rwn q6] 28)) := push (Below.refl _ _) _
  have G : (wC.alloc (.cells #[.int .i64 x.code, .int .i64 x.anam, .int .i64 x.price, .slice p6 x.rwn q6] 28)).heap[wC.heap.size]? = some (.cells #[.int .i64 x.code, .int .i64 x.anam, .int .i64 x.price, .slice p6 x.rwn q6] 28 (0, 0)) := heap_alloc_new _ _
  have HG : Hid (MRowsAt (wC.alloc (.cells #[.int .i64 x.code, .int .i64 x.anam, .int .i64 x.price, .slice p6 x.rwn q6] 28)) p6 x.rwn x.rw) := (rows_of_own hans).below hb2
  replace X := blk_below (blk_below X hb) hb2
  replace HR : Hid (MRowsAt (wC.alloc (.cells #[.int .i64 x.code, .int .i64 x.anam, .int .i64 x.price, .slice p6 x.rwn q6] 28)) ra x.rwn x.rw ∧ (ra = none → x.rwn = 0 ∧ rc = 0)) := ⟨(HR.out.1.below hb).below hb2, HR.out.2⟩
  replace HB := after (after HB hb) hb2
  clear hb hb2 hO6 hz6 hans H5 HT
  go_upto_region 14 with fail
  generalize wC.alloc (.cells #[.int .i64 x.code, .int .i64 x.anam, .int .i64 x.price, .slice p6 x.rwn q6] 28) = wD at X G HG HR HB ⊢
  obtain ⟨gB, hgB⟩ : ∃ u, u = wC.heap.size := ⟨_, rfl⟩
  rw [← hgB] at G ⊢
  clear hgB
  have q0 := blk_cell X 0 _ rfl
  have q1 := blk_cell X 1 _ rfl
  have q2 := blk_cell X 2 _ rfl
  have q3 := blk_cell X 3 _ rfl
  have s0 := blk_cell G 0 _ rfl
  have s1 := blk_cell G 1 _ rfl
  have s2 := blk_cell G 2 _ rfl
  have s3 := blk_cell G 3 _ rfl
  have c0 : (x.code == x.code) = true := by simp
  have c1 : (x.anam == x.anam) = true := by simp
  have c2 : (x.price == x.price) = true := by simp
  go_wp2_with fail
  refine (sameRows_yes ra p6 x.rwn rc q6 x.rw _ (by omega) HR.out.1 HG.out).mono ?_
  rintro e wE ⟨rfl, hb⟩
  replace HB := after HB hb
  go_wp2
  go_ret
  exact ⟨rfl, HB⟩

end Go.Proofs.Ytogbaoggebghdaa

namespace Go.Proofs.Ytogbaoggebghdaa
open Go.ChangeShapes Go.WideShapes Go.ChangeAt Go.RowKit Go.Deep

section
variable {H : Type} {enc : TypeId × Value → H} {P : Program} {w : World} {base : Nat} {spare : Nat → Bool} {held : Bool}

/-- How a list's datum tells its length. -/
def LenIs (d : DataW H) (n : Nat) : Prop := (d = .nil ∧ n = 0) ∨ ∃ els rest, d = .slice els rest ∧ els.length = n

theorem view_ints {t e fuel : Nat} {v : Value} {x : DataW H × List MemPlace} (ht : P.underlying t = some (.slice e)) (he : P.underlying e = some (.int .i64)) (hc : P.cellsOf e = 1)
    (h : DataW.trod enc P w base spare held fuel t [v] = some x) :
    ∃ ao n cap F, v = .slice ao n cap ∧ n ≤ cap ∧ cap ≤ maxLen ∧ (ao = none → n = 0 ∧ cap = 0) ∧ IntsAt w ao n F ∧ LenIs x.1 n := by
  rcases open_ints ht he hc h with ⟨hcs, hx⟩ | ⟨a, n, cap, zs, hcs, _, hl, hm, hz, hx, hcell, _⟩
  · simp at hcs
    subst hcs
    refine ⟨none, 0, 0, fun _ => 0, rfl, Nat.le_refl _, Nat.zero_le _, fun _ => ⟨rfl, rfl⟩, fun k hk => by omega, .inl ⟨by rw [hx], rfl⟩⟩
  · simp at hcs
    subst hcs
    have hzl : n ≤ zs.length := by rw [hz]; split <;> omega
    refine ⟨some a, n, cap, fun k => zs.getD k 0, rfl, hl, hm, (fun h => by cases h), (fun k hk => ?_), .inr ⟨_, _, by rw [hx], by simp [lits]; omega⟩⟩
    obtain ⟨b, off, rfl, hc2⟩ := ints_at hcell (by omega)
    exact ⟨b, off, rfl, hc2 k (by omega)⟩

theorem view_slots {t e fuel ti tb : Nat} {f0 f1 f2 : Field} {v : Value} {x : DataW H × List MemPlace} (ht : P.underlying t = some (.slice e)) (he : P.underlying e = some (.struct #[f0, f1, f2])) (hc : P.cellsOf e = 3)
    (t0 : f0.type = ti) (t1 : f1.type = tb) (t2 : f2.type = ti) (o0 : f0.offset = 0) (o1 : f1.offset = 1) (o2 : f2.offset = 2)
    (hi : P.underlying ti = some (.int .i64)) (hb : P.underlying tb = some .bool) (ci : P.cellsOf ti = 1) (cb : P.cellsOf tb = 1)
    (h : DataW.trod enc P w base spare held fuel t [v] = some x) :
    ∃ ao n cap A U V, v = .slice ao n cap ∧ n ≤ cap ∧ cap ≤ maxLen ∧ (ao = none → n = 0 ∧ cap = 0) ∧ SlotsAt w ao n A U V ∧ LenIs x.1 n := by
  rcases open_slice ht h with ⟨hcs, hx⟩ | ⟨a, n, cap, m, fl, D, Pl, hcs, _, hl, hm, hmm, hx, hcell⟩
  · simp at hcs
    subst hcs
    refine ⟨none, 0, 0, fun _ => 0, fun _ => false, fun _ => 0, rfl, Nat.le_refl _, Nat.zero_le _, fun _ => ⟨rfl, rfl⟩, fun k hk => by omega, .inl ⟨by rw [hx], rfl⟩⟩
  · simp at hcs
    subst hcs
    have hnm : n ≤ m := by rw [hmm]; split <;> omega
    by_cases hn0 : n = 0
    · subst hn0
      exact ⟨some a, 0, cap, fun _ => 0, fun _ => false, fun _ => 0, rfl, hl, hm, (fun h => by cases h), (fun k hk => by omega), .inr ⟨_, _, by rw [hx], by simp⟩⟩
    have hspot : a.spot = none := by
      obtain ⟨cs, hcl, _⟩ := hcell 0 (by omega)
      rw [hc] at hcl
      obtain ⟨_, hlen, hget⟩ := World.cells?_some hcl
      have g0 := hget 0 (by omega)
      rw [List.getElem?_eq_getElem (by omega)] at g0
      have := World.cell?_spot g0
      simpa [Addr.add] using this
    obtain ⟨b, off, spot⟩ := a
    simp only at hspot
    subst hspot
    have key : ∀ k, k < n → ∃ (y : Int × Bool × Int), w.cell? ⟨b, off + k * 3, none⟩ = some (.int .i64 y.1) ∧ w.cell? ⟨b, off + k * 3 + 1, none⟩ = some (.bool y.2.1) ∧ w.cell? ⟨b, off + k * 3 + 2, none⟩ = some (.int .i64 y.2.2) := by
      intro k hk
      obtain ⟨cs, hcl, htr⟩ := hcell k (by omega)
      rw [hc] at hcl
      obtain ⟨_, hlen, hget⟩ := World.cells?_some hcl
      obtain ⟨y0, y1, y2, n', _, _, h0, h1, h2⟩ := trod_struct3 he htr
      rw [t0, o0, ci] at h0
      rw [t1, o1, cb] at h1
      rw [t2, o2, ci] at h2
      match cs, hlen with
      | [p, q, r], _ =>
        obtain ⟨i0, e0, _, _⟩ := DataW.trod_int hi h0
        obtain ⟨i1, e1, _⟩ := DataW.trod_bool hb h1
        obtain ⟨i2, e2, _, _⟩ := DataW.trod_int hi h2
        simp at e0 e1 e2
        subst e0 e1 e2
        have g0 := hget 0 (by omega)
        have g1 := hget 1 (by omega)
        have g2 := hget 2 (by omega)
        simp only [List.getElem?_cons_zero, List.getElem?_cons_succ, Addr.add_lit, Nat.add_zero] at g0 g1 g2
        exact ⟨(i0, i1, i2), g0, g1, g2⟩
    obtain ⟨f, hf⟩ := choose_lt key
    exact ⟨some ⟨b, off, none⟩, n, cap, fun k => (f k).1, fun k => (f k).2.1, fun k => (f k).2.2, rfl, hl, hm, (fun h => by cases h), (fun k hk => ⟨b, off, rfl, hf k hk⟩), .inr ⟨_, _, by rw [hx], by simp⟩⟩

/-- The reach of a list: so many elements at most. -/
theorem len_reach {t e n : Nat} {d : DataW H} {bytes : Nat} (ht : P.underlying t = some (.slice e)) (hb : P.bytesOf e = bytes) (hd : LenIs d n) (hw : ∀ x ∈ DataW.weights P t d, x ≤ reachBytes) : n * bytes ≤ reachBytes := by
  rcases hd with ⟨_, rfl⟩ | ⟨els, rest, rfl, rfl⟩
  · omega
  · have := hw ((els.length + rest.length) * P.bytesOf e) (by simp [DataW.weights, ht])
    rw [hb] at this
    exact Nat.le_trans (Nat.mul_le_mul_right _ (Nat.le_add_right _ _)) this

end
end Go.Proofs.Ytogbaoggebghdaa
