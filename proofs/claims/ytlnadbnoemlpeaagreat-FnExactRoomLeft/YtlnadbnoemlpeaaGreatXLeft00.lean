/-
  OWN TEXT: SpecLeft, PlainLeft.
-/
import Derived.Deep.RegionHeld3
import Derived.Test.YtlnadbnoemlpeaaGreatB31
import Derived.Test.YtlnadbnoemlpeaaGreatB28
namespace Go.Proofs.YtlnadbnoemlpeaaGreat
open Go.RowKit

/-- What RoomLeft answers. -/
def LeftAns (x : Off) (z : Int) (base ti : Nat) (e : Ending) (w : World) : Prop :=
  (∃ k v1 v2, OffOk x ∧ k < x.san ∧ findIx x.sa z x.san = k ∧ e = .returned (.tuple #[v1, v2, .int .i64 ((x.sa k).most - sits (x.ld k).se (x.ld k).sen), .bool true]) ∧
    w.ownsRow base ti 1 v1 (x.sa k).la.n (intList (left (x.sa k).la (x.ld k).st (x.ld k).stn) (x.sa k).la.n) ∧ w.ownsRow base ti 1 v2 (x.sa k).ca.n (intList (leftR (x.sa k).ca (x.ld k).ro (x.ld k).ron) (x.sa k).ca.n)) ∨
  (¬ (OffOk x ∧ findIx x.sa z x.san < x.san) ∧ e = .returned (.tuple #[.slice none 0 0, .slice none 0 0, .int .i64 0, .bool false]))

set_option maxHeartbeats 12800000 in
set_option maxRecDepth 100000 in
theorem specLeft_raw (x : Off) (asa ald abk : Option Addr) (csa cld cbk : Nat) (z : Int) (w : World) (hs : Off.Short x 1048576) (hsa : SailsAt w asa x.san x.sa) (hld : LoadsAt w ald x.ldn x.ld) (hbk : BooksAt w abk x.bkn x.bk) (hcb : x.bkn ≤ cbk) :
    Calls Tryz.prog 17 #[.agg #[.slice asa x.san csa, .slice ald x.ldn cld, .slice abk x.bkn cbk], .int .i64 z] w fun e w' => LeftAns x z w.heap.size 3 e w' ∧ Below w.heap.size w w' := by
  have HSA : Hid (SailsAt w asa x.san x.sa) := hsa
  have HLD : Hid (LoadsAt w ald x.ldn x.ld) := hld
  have HBK : Hid (BooksAt w abk x.bkn x.bk) := hbk
  have HSH : Hid (Off.Short x 1048576) := hs
  have n1 : x.san ≤ 1048576 := hs.1.1
  clear hsa hld hbk hs
  have hb0 : Below w.heap.size w (w.alloc (.cells #[.slice asa x.san csa, .slice ald x.ldn cld, .slice abk x.bkn cbk] 33)) := push (Below.refl _ _) _
  have bO := heap_alloc_new w (.cells #[.slice asa x.san csa, .slice ald x.ldn cld, .slice abk x.bkn cbk] 33)
  go_enter Tryz.func17, Tryz.ntmps17
  go_wp2_with fail
  generalize w.alloc (.cells #[.slice asa x.san csa, .slice ald x.ldn cld, .slice abk x.bkn cbk] 33) = V0 at hb0 bO ⊢
  refine (specOff_raw x asa ald abk csa cld cbk _ HSH.out (HSA.out.below hb0) (HLD.out.below hb0) (HBK.out.below hb0) hcb).mono ?_
  rintro e V ⟨⟨t0, rfl, ht0⟩, hbv⟩
  have HT0 : Hid (t0 = true ↔ OffOk x) := ht0
  have bO1 := blk_below bO hbv
  have hb1 := after hb0 hbv
  clear ht0 hb0 bO hbv V0
  have z0 := blk_cell bO1 0 _ rfl
  cases t0 with
  | false =>
    have HN : Hid (¬ (OffOk x ∧ findIx x.sa z x.san < x.san)) := fun h => by have := HT0.out.2 h.1; cases this
    go_wp2
    exact bodyPost_ret (v := .tuple #[.slice none 0 0, .slice none 0 0, .int .i64 0, .bool false]) (by simp [results, Tryz.results17, go_sem]) rfl ⟨.inr ⟨HN.out, rfl⟩, hb1⟩
  | true =>
  have HOK : Hid (OffOk x) := HT0.out.1 rfl
  clear HT0
  go_wp2_with fail
  refine (l3At_any asa x.san csa x.sa z _ n1 (HSA.out.below hb1)).mono ?_
  rintro e V2 ⟨he, hbv⟩
  have bO2 := blk_below bO1 hbv
  have hb2 := after hb1 hbv
  clear z0 bO1 hb1 hbv
  have z0 := blk_cell bO2 0 _ rfl
  rcases he with ⟨hk, rfl⟩ | ⟨hk, rfl⟩
  case inr =>
    have HN : Hid (¬ (OffOk x ∧ findIx x.sa z x.san < x.san)) := fun h => by have := h.2; omega
    clear hk
    go_wp2
    exact bodyPost_ret (v := .tuple #[.slice none 0 0, .slice none 0 0, .int .i64 0, .bool false]) (by simp [results, Tryz.results17, go_sem]) rfl ⟨.inr ⟨HN.out, rfl⟩, hb2⟩
  have HK1 : Hid (∃ k, findIx x.sa z x.san = k) := ⟨_, rfl⟩
  obtain ⟨k, hkd⟩ := HK1.out
  have HKD : Hid (findIx x.sa z x.san = k) := hkd
  rw [hkd] at hk
  rw [hkd]
  clear hkd HK1
  have e0 : decide ((k : Int) < 0) = false := by simp
  have hlt := hk
  go_wp2_with fail
  refine (l3At_any asa x.san csa x.sa z _ n1 (HSA.out.below hb2)).mono ?_
  rintro e V3 ⟨he, hbv⟩
  have he2 : e = .returned (.int .i64 k) := by
    rw [HKD.out] at he
    rcases he with ⟨_, rfl⟩ | ⟨h, _⟩
    · rfl
    · omega
  subst he2
  have bO3 := blk_below bO2 hbv
  have hb3 := after hb2 hbv
  clear z0 bO2 hb2 hbv he
  have HM1 : Hid (x.ldn = x.san) := HOK.out.2.1
  obtain ⟨sb, so, la, lc, ca, cc, rfl, f0, f1, f2, f3, f4, f5, f6, f7, hla, hca, sla, sca⟩ := HSA.out k hlt
  obtain ⟨s, hsd⟩ : ∃ s, s = x.sa k := ⟨_, rfl⟩
  rw [← hsd] at f0 f1 f2 f3 f4 f5 f6 f7 hla hca sla sca
  have HSD : Hid (s = x.sa k) := hsd
  have lsb := World.block_lt_of_cell? w _ f0
  have c0 : V3.cell? ⟨sb, so + k * 8, none⟩ = some (.int .i64 s.id) := (hb3.cell (p := ⟨sb, so + k * 8, none⟩) lsb).trans f0
  have c1 : V3.cell? ⟨sb, so + k * 8 + 1, none⟩ = some (.string s.fr) := (hb3.cell (p := ⟨sb, so + k * 8 + 1, none⟩) lsb).trans f1
  have c2 : V3.cell? ⟨sb, so + k * 8 + 2, none⟩ = some (.string s.dst) := (hb3.cell (p := ⟨sb, so + k * 8 + 2, none⟩) lsb).trans f2
  have c3 : V3.cell? ⟨sb, so + k * 8 + 3, none⟩ = some (.int .i64 s.dep) := (hb3.cell (p := ⟨sb, so + k * 8 + 3, none⟩) lsb).trans f3
  have c4 : V3.cell? ⟨sb, so + k * 8 + 4, none⟩ = some (.int .i64 s.arr) := (hb3.cell (p := ⟨sb, so + k * 8 + 4, none⟩) lsb).trans f4
  have c5 : V3.cell? ⟨sb, so + k * 8 + 5, none⟩ = some (.slice la s.la.n lc) := (hb3.cell (p := ⟨sb, so + k * 8 + 5, none⟩) lsb).trans f5
  have c6 : V3.cell? ⟨sb, so + k * 8 + 6, none⟩ = some (.slice ca s.ca.n cc) := (hb3.cell (p := ⟨sb, so + k * 8 + 6, none⟩) lsb).trans f6
  have c7 : V3.cell? ⟨sb, so + k * 8 + 7, none⟩ = some (.int .i64 s.most) := (hb3.cell (p := ⟨sb, so + k * 8 + 7, none⟩) lsb).trans f7
  obtain ⟨C, hC, hI⟩ := HLD.out
  obtain ⟨lb, lo, rfl, hc⟩ := hC k (by have := HM1.out; omega)
  obtain ⟨l, hld⟩ : ∃ l, l = x.ld k := ⟨_, rfl⟩
  obtain ⟨ast, cst, aro, cro, ase, cse, eC, hst, sst, hro, sro, hse, sse⟩ := hI k (by have := HM1.out; omega)
  rw [← hld] at eC hst sst hro sro hse sse
  have HLL : Hid (l = x.ld k) := hld
  have llb : lb < w.heap.size := World.block_lt_of_cell? w _ (hc 0 (by decide))
  have d0 : ∀ o, (V3.alloc o).cell? ⟨lb, lo + k * 3, none⟩ = some (.slice ast l.stn cst) := fun o => ((hb3.alloc hb3.size o).cell (p := ⟨lb, lo + k * 3, none⟩) llb).trans (by have := hc 0 (by decide); rw [eC] at this; exact this)
  have d1 : ∀ o, (V3.alloc o).cell? ⟨lb, lo + k * 3 + 1, none⟩ = some (.slice aro l.ron cro) := fun o => ((hb3.alloc hb3.size o).cell (p := ⟨lb, lo + k * 3 + 1, none⟩) llb).trans (by have := hc 1 (by decide); rw [eC] at this; exact this)
  have d2 : ∀ o, (V3.alloc o).cell? ⟨lb, lo + k * 3 + 2, none⟩ = some (.slice ase l.sen cse) := fun o => ((hb3.alloc hb3.size o).cell (p := ⟨lb, lo + k * 3 + 2, none⟩) llb).trans (by have := hc 2 (by decide); rw [eC] at this; exact this)
  have HLA : Hid (PairsAt w la s.la) := hla
  have HCA : Hid (PairsAt w ca s.ca) := hca
  have HST : Hid (StaysAt w ast l.stn l.st) := hst
  have HRO : Hid (RoomsAt w aro l.ron l.ro) := hro
  have HSE : Hid (SeatsAt w ase l.sen l.se) := hse
  have hok := HOK.out.2.2.2.1 k hlt
  rw [← hsd, ← hld] at hok
  have HP : Hid (LoadOk s l) := hok
  clear hok hC hI hc eC hsd hld f0 f1 f2 f3 f4 f5 f6 f7 hla hca sla sca hst sst hro sro hse sse
  have hk0 : (0 : Int) ≤ (k : Int) := by omega
  have hk1 : (k : Int) < (x.ldn : Int) := by have := HM1.out; omega
  have hk2 : (k : Int) < (x.san : Int) := by omega
  have z0 := blk_cell bO3 0 _ rfl
  have z1 : ∀ o, (V3.alloc o).cell? ⟨w.heap.size, 1, none⟩ = some (.slice (some ⟨lb, lo, none⟩) x.ldn cld) := fun o => blk_cell (blk_alloc bO3 o) 1 _ rfl
  go_upto_region 6 with fail
  have hbx : Below w.heap.size w ((V3.alloc (.cells #[.int .i64 s.id, .string s.fr, .string s.dst, .int .i64 s.dep, .int .i64 s.arr, .slice la s.la.n lc, .slice ca s.ca.n cc, .int .i64 s.most] 56)).alloc (.cells #[.slice ast l.stn cst, .slice aro l.ron cro, .slice ase l.sen cse] 61)) := (hb3.alloc hb3.size _).alloc (by have := hb3.size; simp; omega) _
  have bS : ((V3.alloc (.cells #[.int .i64 s.id, .string s.fr, .string s.dst, .int .i64 s.dep, .int .i64 s.arr, .slice la s.la.n lc, .slice ca s.ca.n cc, .int .i64 s.most] 56)).alloc (.cells #[.slice ast l.stn cst, .slice aro l.ron cro, .slice ase l.sen cse] 61)).heap[V3.heap.size]? = some (.cells #[.int .i64 s.id, .string s.fr, .string s.dst, .int .i64 s.dep, .int .i64 s.arr, .slice la s.la.n lc, .slice ca s.ca.n cc, .int .i64 s.most] 56 (0, 0)) := blk_alloc (heap_alloc_new V3 _) _
  have bL : ((V3.alloc (.cells #[.int .i64 s.id, .string s.fr, .string s.dst, .int .i64 s.dep, .int .i64 s.arr, .slice la s.la.n lc, .slice ca s.ca.n cc, .int .i64 s.most] 56)).alloc (.cells #[.slice ast l.stn cst, .slice aro l.ron cro, .slice ase l.sen cse] 61)).heap[V3.heap.size + 1]? = some (.cells #[.slice ast l.stn cst, .slice aro l.ron cro, .slice ase l.sen cse] 61 (0, 0)) := by simpa using heap_alloc_new (V3.alloc _) _
  generalize ((V3.alloc (.cells #[.int .i64 s.id, .string s.fr, .string s.dst, .int .i64 s.dep, .int .i64 s.arr, .slice la s.la.n lc, .slice ca s.ca.n cc, .int .i64 s.most] 56)).alloc (.cells #[.slice ast l.stn cst, .slice aro l.ron cro, .slice ase l.sen cse] 61)) = X at hbx bS bL ⊢
  generalize V3.heap.size = B at bS bL ⊢
  clear c0 c1 c2 c3 c4 c5 c6 c7 d0 d1 d2 z0 z1 hb3 bO3 V3 hk0 hk1 hk2
  have BW : Hid (∀ w', Below X.heap.size X w' → Below w.heap.size w w') := fun w' h => after hbx h
  have KS : Hid (∀ w', Below X.heap.size X w' → (w'.cell? ⟨B, 5, none⟩ = some (.slice la s.la.n lc) ∧ w'.cell? ⟨B, 6, none⟩ = some (.slice ca s.ca.n cc) ∧ w'.cell? ⟨B, 7, none⟩ = some (.int .i64 s.most) ∧
      w'.cell? ⟨B + 1, 0, none⟩ = some (.slice ast l.stn cst) ∧ w'.cell? ⟨B + 1, 1, none⟩ = some (.slice aro l.ron cro) ∧ w'.cell? ⟨B + 1, 2, none⟩ = some (.slice ase l.sen cse))) := fun w' h => by
    have g1 := blk_below bS h
    have g2 := blk_below bL h
    exact ⟨blk_cell g1 5 _ rfl, blk_cell g1 6 _ rfl, blk_cell g1 7 _ rfl, blk_cell g2 0 _ rfl, blk_cell g2 1 _ rfl, blk_cell g2 2 _ rfl⟩
  have HC1 : Hid (∀ w', Below w.heap.size w w' → Calls Tryz.prog 53 #[.slice la s.la.n lc, .slice ast l.stn cst] w' fun e w2 => (∃ v, e = .returned v ∧ w2.ownsRow w.heap.size 3 1 v s.la.n (intList (left s.la l.st l.stn) s.la.n)) ∧ Below w'.heap.size w' w2) := fun w' h =>
    (l4Free_any la ast s.la.n lc l.stn cst s.la l.st w' rfl HP.out.1.1 HP.out.1.2.1 (fun j hj => (HP.out.1.2.2.1 j hj).2.2.1) (HLA.out.below h) (HST.out.below h)).mono fun _ _ ⟨⟨v, a, b⟩, c⟩ => ⟨⟨v, a, own_base b h.size⟩, c⟩
  have HC2 : Hid (∀ w', Below w.heap.size w w' → Calls Tryz.prog 54 #[.slice ca s.ca.n cc, .slice aro l.ron cro] w' fun e w2 => (∃ v, e = .returned v ∧ w2.ownsRow w.heap.size 3 1 v s.ca.n (intList (leftR s.ca l.ro l.ron) s.ca.n)) ∧ Below w'.heap.size w' w2) := fun w' h =>
    (l5Free_any ca aro s.ca.n cc l.ron cro s.ca l.ro w' rfl HP.out.2.1.1 HP.out.2.1.2.1 HP.out.2.1.manys (HCA.out.below h) (HRO.out.below h)).mono fun _ _ ⟨⟨v, a, b⟩, c⟩ => ⟨⟨v, a, own_base b h.size⟩, c⟩
  have HC3 : Hid (∀ w', Below w.heap.size w w' → Calls Tryz.prog 55 #[.slice ase l.sen cse] w' fun e w2 => e = .returned (.int .i64 (sits l.se l.sen)) ∧ Below w'.heap.size w' w2) := fun w' h =>
    l5Seats_any ase l.sen cse l.se w' HP.out.2.2.2.1 (fun j hj => (HP.out.2.2.2.2.1 j hj).2.2) (HSE.out.below h)
  have hm0 : In s.most 0 500 := HP.out.2.2.1
  have hq0 := sits_bounds l.se l.sen (fun j hj => (HP.out.2.2.2.2.1 j hj).2.2)
  have hq1 : sits l.se l.sen ≤ s.most := HP.out.2.2.2.2.2
  have hwr : IntKind.wrap .i64 (s.most - sits l.se l.sen) = s.most - sits l.se l.sen := by unfold In at hm0; rw [IntKind.wrap_i64]; omega
  have HEND : Hid (∀ v1 v2 W, W.ownsRow w.heap.size 3 1 v1 s.la.n (intList (left s.la l.st l.stn) s.la.n) → W.ownsRow w.heap.size 3 1 v2 s.ca.n (intList (leftR s.ca l.ro l.ron) s.ca.n) → LeftAns x z w.heap.size 3 (.returned (.tuple #[v1, v2, .int .i64 (s.most - sits l.se l.sen), .bool true])) W) := fun v1 v2 W a b => by
    rw [HSD.out, HLL.out] at a b ⊢
    exact .inl ⟨k, v1, v2, HOK.out, hlt, HKD.out, rfl, a, b⟩
  clear hm0 hq0 hq1 bS bL
  go_region_held3 (fun w' => w'.cell? ⟨B, 5, none⟩ = some (.slice la s.la.n lc) ∧ w'.cell? ⟨B, 6, none⟩ = some (.slice ca s.ca.n cc) ∧ w'.cell? ⟨B, 7, none⟩ = some (.int .i64 s.most) ∧
      w'.cell? ⟨B + 1, 0, none⟩ = some (.slice ast l.stn cst) ∧ w'.cell? ⟨B + 1, 1, none⟩ = some (.slice aro l.ron cro) ∧ w'.cell? ⟨B + 1, 2, none⟩ = some (.slice ase l.sen cse))
    ((refine KS.out _ ?_; exact (by repeat (first | exact Below.refl _ _ | refine Below.drew ?_ | refine after ?_ hb4 | refine after ?_ hb5 | refine after ?_ hb6))))
    (first
      | (go_at_call 53; refine Calls.mono (HC1.out _ (BW.out _ (by repeat (first | exact Below.refl _ _ | refine Below.drew ?_ | refine after ?_ hb4 | refine after ?_ hb5 | refine after ?_ hb6)))) ?_; rintro e w4 ⟨⟨v4, rfl, ho4⟩, hb4⟩)
      | (go_at_call 54; refine Calls.mono (HC2.out _ (BW.out _ (by repeat (first | exact Below.refl _ _ | refine Below.drew ?_ | refine after ?_ hb4 | refine after ?_ hb5 | refine after ?_ hb6)))) ?_; rintro e w5 ⟨⟨v5, rfl, ho5⟩, hb5⟩)
      | (go_at_call 55; refine Calls.mono (HC3.out _ (BW.out _ (by repeat (first | exact Below.refl _ _ | refine Below.drew ?_ | refine after ?_ hb4 | refine after ?_ hb5 | refine after ?_ hb6)))) ?_; rintro e w6 ⟨rfl, hb6⟩))
  all_goals go_wp2
  all_goals exact bodyPost_ret (v := .tuple #[v4, v5, .int .i64 (s.most - sits l.se l.sen), .bool true]) (by simp [results, Tryz.results17, go_sem]) rfl ⟨HEND.out _ _ _ (own_below (w := w4) (by repeat (first | exact Below.refl _ _ | refine Below.drew ?_ | refine after ?_ hb4 | refine after ?_ hb5 | refine after ?_ hb6)) ho4) (own_below (w := w5) (by repeat (first | exact Below.refl _ _ | refine Below.drew ?_ | refine after ?_ hb4 | refine after ?_ hb5 | refine after ?_ hb6)) ho5), BW.out _ (by repeat (first | exact Below.refl _ _ | refine Below.drew ?_ | refine after ?_ hb4 | refine after ?_ hb5 | refine after ?_ hb6))⟩

theorem specLeft_any (cs : List Value) (x : Off) (z : Int) (w : World) (hs : Off.Short x 1048576) (h : Off.Is w cs x) :
    Calls Tryz.prog 17 #[.agg cs.toArray, .int .i64 z] w fun e w' => LeftAns x z w.heap.size 3 e w' ∧ Below w.heap.size w w' := by
  obtain ⟨asa, csa, ald, cld, abk, cbk, rfl, h1, s1, h2, s2, h3, s3⟩ := h
  exact specLeft_raw x asa ald abk csa cld cbk z w hs h1 h2 h3 s3.1

end Go.Proofs.YtlnadbnoemlpeaaGreat

namespace Go.Proofs.YtlnadbnoemlpeaaGreat
open Go.RowKit Classical

def LOk (x : Off) (z : Int) : Prop := OffOk x ∧ findIx x.sa z x.san < x.san
noncomputable def lOk (x : Off) (z : Int) : Bool := decide (LOk x z)
noncomputable def lN1 (x : Off) (z : Int) : Nat := if LOk x z then (x.sa (findIx x.sa z x.san)).la.n else 0
noncomputable def lN2 (x : Off) (z : Int) : Nat := if LOk x z then (x.sa (findIx x.sa z x.san)).ca.n else 0
noncomputable def lF1 (x : Off) (z : Int) : Nat → Int := left (x.sa (findIx x.sa z x.san)).la (x.ld (findIx x.sa z x.san)).st (x.ld (findIx x.sa z x.san)).stn
noncomputable def lF2 (x : Off) (z : Int) : Nat → Int := leftR (x.sa (findIx x.sa z x.san)).ca (x.ld (findIx x.sa z x.san)).ro (x.ld (findIx x.sa z x.san)).ron
noncomputable def lM (x : Off) (z : Int) : Int := if LOk x z then (x.sa (findIx x.sa z x.san)).most - sits (x.ld (findIx x.sa z x.san)).se (x.ld (findIx x.sa z x.san)).sen else 0
theorem lN1_le {x : Off} (z : Int) {B : Nat} (hs : Off.Short x B) : lN1 x z ≤ B := by
  unfold lN1
  by_cases h : LOk x z
  · rw [if_pos h]; exact (hs.1.2 _ h.2).2.2.1
  · rw [if_neg h]; exact Nat.zero_le _
theorem lN2_le {x : Off} (z : Int) {B : Nat} (hs : Off.Short x B) : lN2 x z ≤ B := by
  unfold lN2
  by_cases h : LOk x z
  · rw [if_pos h]; exact (hs.1.2 _ h.2).2.2.2
  · rw [if_neg h]; exact Nat.zero_le _
theorem own_nil (w : World) (base e : Nat) (F : Nat → Int) : w.ownsRow base e 1 (.slice none 0 0) 0 (intList F 0) := ⟨by simp [intList], .inl ⟨rfl, rfl⟩⟩
/-- The answer in one form. -/
def LeftU (x : Off) (z : Int) (base ti : Nat) (e : Ending) (w : World) : Prop :=
  ∃ v1 v2, e = .returned (.tuple #[v1, v2, .int .i64 (lM x z), .bool (lOk x z)]) ∧ w.ownsRow base ti 1 v1 (lN1 x z) (intList (lF1 x z) (lN1 x z)) ∧ w.ownsRow base ti 1 v2 (lN2 x z) (intList (lF2 x z) (lN2 x z))
/-- .. and its two lists lie apart. -/
def LeftV (x : Off) (z : Int) (base ti : Nat) (e : Ending) (w : World) : Prop :=
  ∃ v1 v2, e = .returned (.tuple #[v1, v2, .int .i64 (lM x z), .bool (lOk x z)]) ∧ w.ownsRow base ti 1 v1 (lN1 x z) (intList (lF1 x z) (lN1 x z)) ∧ w.ownsRow base ti 1 v2 (lN2 x z) (intList (lF2 x z) (lN2 x z)) ∧ ∀ b, v1.ownBlock = some b → v2.ownBlock ≠ some b
theorem leftU_of {x : Off} {z : Int} {base ti : Nat} {e : Ending} {w : World} (h : LeftAns x z base ti e w) : LeftU x z base ti e w := by
  rcases h with ⟨k, v1, v2, ho, hk, hf, he, h1, h2⟩ | ⟨hn, he⟩
  · have hl : LOk x z := ⟨ho, by rw [hf]; exact hk⟩
    refine ⟨v1, v2, ?_, ?_, ?_⟩
    · rw [he]; unfold lM lOk; rw [if_pos hl, hf]; simp [hl]
    · unfold lN1 lF1; rw [if_pos hl, hf]; exact h1
    · unfold lN2 lF2; rw [if_pos hl, hf]; exact h2
  · have hl : ¬ LOk x z := hn
    refine ⟨.slice none 0 0, .slice none 0 0, ?_, ?_, ?_⟩
    · rw [he]; unfold lM lOk; rw [if_neg hl]; simp [hl]
    · unfold lN1; rw [if_neg hl]; exact own_nil _ _ _ _
    · unfold lN2; rw [if_neg hl]; exact own_nil _ _ _ _

end Go.Proofs.YtlnadbnoemlpeaaGreat
