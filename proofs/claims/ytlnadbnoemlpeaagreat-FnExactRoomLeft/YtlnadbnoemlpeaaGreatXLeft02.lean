/-
  OWN TEXT: LeftI, MarkStay.
-/
import Derived.Test.YtlnadbnoemlpeaaGreatXLeft00
import Derived.Test.YtlnadbnoemlpeaaGreatB26
import Derived.Test.YtlnadbnoemlpeaaGreatXLeft01
import Derived.Test.YtlnadbnoemlpeaaGreatB03
namespace Go.Proofs.YtlnadbnoemlpeaaGreat
open Go.RowKit Classical

theorem leftV_no {x : Off} {z : Int} {base ti : Nat} {w : World} (h : ¬ (OffOk x ∧ findIx x.sa z x.san < x.san)) : LeftV x z base ti (.returned (.tuple #[.slice none 0 0, .slice none 0 0, .int .i64 0, .bool false])) w := by
  have hl : ¬ LOk x z := h
  refine ⟨.slice none 0 0, .slice none 0 0, ?_, ?_, ?_, ?_⟩
  · unfold lM lOk; rw [if_neg hl]; simp [hl]
  · unfold lN1; rw [if_neg hl]; exact own_nil _ _ _ _
  · unfold lN2; rw [if_neg hl]; exact own_nil _ _ _ _
  · intro b hb; simp [Value.ownBlock] at hb
theorem leftV_yes {x : Off} {z : Int} {k base ti : Nat} {v1 v2 : Value} {w : World} {s : Sail} {l : Load} (ho : OffOk x) (hk : findIx x.sa z x.san = k) (hlt : k < x.san) (hs : s = x.sa k) (hl : l = x.ld k)
    (h1 : w.ownsRow base ti 1 v1 s.la.n (intList (left s.la l.st l.stn) s.la.n)) (h2 : w.ownsRow base ti 1 v2 s.ca.n (intList (leftR s.ca l.ro l.ron) s.ca.n)) (ha : ∀ b, v1.ownBlock = some b → v2.ownBlock ≠ some b) :
    LeftV x z base ti (.returned (.tuple #[v1, v2, .int .i64 (s.most - sits l.se l.sen), .bool true])) w := by
  have hl' : LOk x z := ⟨ho, by rw [hk]; exact hlt⟩
  subst hs
  subst hl
  refine ⟨v1, v2, ?_, ?_, ?_, ha⟩
  · unfold lM lOk; rw [if_pos hl', hk]; simp [hl']
  · unfold lN1 lF1; rw [if_pos hl', hk]; exact h1
  · unfold lN2 lF2; rw [if_pos hl', hk]; exact h2

theorem two_first (w : World) (o1 o2 : Obj) : ((w.alloc o1).alloc o2).drew.heap[w.heap.size]? = some o1 := blk_drew (blk_alloc (heap_alloc_new w o1) o2)
theorem two_second (w : World) (o1 o2 : Obj) : ((w.alloc o1).alloc o2).drew.heap[w.heap.size + 1]? = some o2 := blk_drew (by simpa using heap_alloc_new (w.alloc o1) o2)

set_option maxHeartbeats 6400000 in
set_option maxRecDepth 100000 in
theorem implLeft_any (cs : List Value) (x : Off) (z : Int) (w : World) (hs : Off.Short x 1048576) (h : Off.Is w cs x) :
    Calls Tryz.prog 18 #[.agg cs.toArray, .int .i64 z] w fun e w' => LeftV x z w.heap.size 3 e w' ∧ Below w.heap.size w w' := by
  obtain ⟨asa, csa, ald, cld, abk, cbk, rfl, hsa, _, hld, _, hbk, sbk⟩ := h
  have HSA : Hid (SailsAt w asa x.san x.sa) := hsa
  have HLD : Hid (LoadsAt w ald x.ldn x.ld) := hld
  have HBK : Hid (BooksAt w abk x.bkn x.bk) := hbk
  have HSH : Hid (Off.Short x 1048576) := hs
  have HCB : Hid (x.bkn ≤ cbk) := sbk.1
  have n1 : x.san ≤ 1048576 := hs.1.1
  clear hsa hld hbk hs sbk
  have hb0 : Below w.heap.size w (w.alloc (.cells #[.slice asa x.san csa, .slice ald x.ldn cld, .slice abk x.bkn cbk] 33)) := push (Below.refl _ _) _
  have bO := heap_alloc_new w (.cells #[.slice asa x.san csa, .slice ald x.ldn cld, .slice abk x.bkn cbk] 33)
  go_enter Tryz.func18, Tryz.ntmps18
  go_wp2_with fail
  generalize w.alloc (.cells #[.slice asa x.san csa, .slice ald x.ldn cld, .slice abk x.bkn cbk] 33) = V0 at hb0 bO ⊢
  refine (findSailing_any asa x.san csa x.sa z _ n1 (HSA.out.below hb0)).mono ?_
  rintro e V ⟨hr, hbv⟩
  have bO1 := blk_below bO hbv
  have hb1 := after hb0 hbv
  clear hb0 bO hbv V0
  rcases hr with ⟨hk, rfl⟩ | ⟨hk, rfl⟩
  case inr =>
    have HN : Hid (¬ (OffOk x ∧ findIx x.sa z x.san < x.san)) := fun h => by have := h.2; omega
    clear hk
    go_wp2
    exact bodyPost_ret (v := .tuple #[.slice none 0 0, .slice none 0 0, .int .i64 0, .bool false]) (by simp [results, Tryz.results18, go_sem]) rfl ⟨leftV_no HN.out, hb1⟩
  obtain ⟨k, hkd⟩ : ∃ k, findIx x.sa z x.san = k := ⟨_, rfl⟩
  rw [hkd] at hk ⊢
  have HKD : Hid (findIx x.sa z x.san = k) := hkd
  have HLT : Hid (k < x.san) := hk
  clear hkd hk
  have z0 := blk_cell bO1 0 _ rfl
  have z1 := blk_cell bO1 1 _ rfl
  have z2 := blk_cell bO1 2 _ rfl
  go_wp2_with fail
  refine (implOff_raw x asa ald abk csa cld cbk _ HSH.out (HSA.out.below hb1) (HLD.out.below hb1) (HBK.out.below hb1) HCB.out).mono ?_
  rintro e V2 ⟨⟨t0, rfl, ht0⟩, hbv⟩
  have HT0 : Hid (t0 = true ↔ OffOk x) := ht0
  have bO2 := blk_below bO1 hbv
  have hb2 := after hb1 hbv
  clear ht0 hb1 bO1 hbv z0 z1 z2
  cases t0 with
  | false =>
    have HN : Hid (¬ (OffOk x ∧ findIx x.sa z x.san < x.san)) := fun h => by have := HT0.out.2 h.1; cases this
    go_wp2
    exact bodyPost_ret (v := .tuple #[.slice none 0 0, .slice none 0 0, .int .i64 0, .bool false]) (by simp [results, Tryz.results18, go_sem]) rfl ⟨leftV_no HN.out, hb2⟩
  | true =>
  have HOK : Hid (OffOk x) := HT0.out.1 rfl
  clear HT0
  have hlt := HLT.out
  obtain ⟨sb, so, la, lc, ca, cc, rfl, f0, f1, f2, f3, f4, f5, f6, f7, hla, hca, sla, sca⟩ := HSA.out k hlt
  obtain ⟨s, hsd⟩ : ∃ s, s = x.sa k := ⟨_, rfl⟩
  have hsh := HSH.out.1.2 k hlt
  rw [← hsd] at f0 f1 f2 f3 f4 f5 f6 f7 hla hca sla sca hsh
  have HSD : Hid (s = x.sa k) := hsd
  have lsb := World.block_lt_of_cell? w _ f0
  obtain ⟨D, hD, hJ⟩ := HLD.out
  have hk2 : k < x.ldn := by have := HOK.out.2.1; omega
  obtain ⟨lb, lo, rfl, hc⟩ := hD k hk2
  obtain ⟨l, hld⟩ : ∃ l, l = x.ld k := ⟨_, rfl⟩
  have hlh := HSH.out.2.1.2 k hk2
  obtain ⟨ast, cst, aro, cro, ase, cse, eC, hst, sst, hro, sro, hse, sse⟩ := hJ k hk2
  rw [← hld] at eC hst sst hro sro hse sse hlh
  have HLL : Hid (l = x.ld k) := hld
  have llb : lb < w.heap.size := World.block_lt_of_cell? w _ (hc 0 (by decide))
  have hok := HOK.out.2.2.2.1 k hlt
  rw [← hsd, ← hld] at hok
  have HP : Hid (LoadOk s l) := hok
  have HLA : Hid (PairsAt w la s.la) := hla
  have HCA : Hid (PairsAt w ca s.ca) := hca
  have HST : Hid (StaysAt w ast l.stn l.st ∧ l.stn ≤ cst) := ⟨hst, sst.1⟩
  have HRO : Hid (RoomsAt w aro l.ron l.ro ∧ l.ron ≤ cro) := ⟨hro, sro.1⟩
  have HSE : Hid (SeatsAt w ase l.sen l.se ∧ l.sen ≤ cse) := ⟨hse, sse.1⟩
  have HLH : Hid (Load.Short l 1048576) := hlh
  have HSS : Hid (s.la.n ≤ 1048576 ∧ s.ca.n ≤ 1048576) := ⟨hsh.2.2.1, hsh.2.2.2⟩
  have KS : Hid (∀ w', Below V2.heap.size V2 w' → (w'.cell? ⟨w.heap.size, 0, none⟩ = some (.slice (some ⟨sb, so, none⟩) x.san csa) ∧ w'.cell? ⟨w.heap.size, 1, none⟩ = some (.slice (some ⟨lb, lo, none⟩) x.ldn cld) ∧
      w'.cell? ⟨sb, so + k * 8, none⟩ = some (.int .i64 s.id) ∧ w'.cell? ⟨sb, so + k * 8 + 1, none⟩ = some (.string s.fr) ∧ w'.cell? ⟨sb, so + k * 8 + 2, none⟩ = some (.string s.dst) ∧ w'.cell? ⟨sb, so + k * 8 + 3, none⟩ = some (.int .i64 s.dep) ∧ w'.cell? ⟨sb, so + k * 8 + 4, none⟩ = some (.int .i64 s.arr) ∧ w'.cell? ⟨sb, so + k * 8 + 5, none⟩ = some (.slice la s.la.n lc) ∧ w'.cell? ⟨sb, so + k * 8 + 6, none⟩ = some (.slice ca s.ca.n cc) ∧ w'.cell? ⟨sb, so + k * 8 + 7, none⟩ = some (.int .i64 s.most) ∧
      w'.cell? ⟨lb, lo + k * 3, none⟩ = some (.slice ast l.stn cst) ∧ w'.cell? ⟨lb, lo + k * 3 + 1, none⟩ = some (.slice aro l.ron cro) ∧ w'.cell? ⟨lb, lo + k * 3 + 2, none⟩ = some (.slice ase l.sen cse))) := fun w' h => by
    have g2 := blk_below bO2 h
    have g3 := after hb2 h
    exact ⟨blk_cell g2 0 _ rfl, blk_cell g2 1 _ rfl, (g3.cell (p := ⟨sb, so + k * 8, none⟩) lsb).trans f0, (g3.cell (p := ⟨sb, so + k * 8 + 1, none⟩) lsb).trans f1, (g3.cell (p := ⟨sb, so + k * 8 + 2, none⟩) lsb).trans f2, (g3.cell (p := ⟨sb, so + k * 8 + 3, none⟩) lsb).trans f3, (g3.cell (p := ⟨sb, so + k * 8 + 4, none⟩) lsb).trans f4, (g3.cell (p := ⟨sb, so + k * 8 + 5, none⟩) lsb).trans f5, (g3.cell (p := ⟨sb, so + k * 8 + 6, none⟩) lsb).trans f6, (g3.cell (p := ⟨sb, so + k * 8 + 7, none⟩) lsb).trans f7,
      (g3.cell (p := ⟨lb, lo + k * 3, none⟩) llb).trans (by have := hc 0 (by decide); rw [eC] at this; exact this), (g3.cell (p := ⟨lb, lo + k * 3 + 1, none⟩) llb).trans (by have := hc 1 (by decide); rw [eC] at this; exact this), (g3.cell (p := ⟨lb, lo + k * 3 + 2, none⟩) llb).trans (by have := hc 2 (by decide); rw [eC] at this; exact this)⟩
  have hk0 : (0 : Int) ≤ (k : Int) := by omega
  have hk1 : (k : Int) < (x.ldn : Int) := by omega
  have hk3 : (k : Int) < (x.san : Int) := by omega
  clear hok hD hJ hc eC hsd hld f0 f1 f2 f3 f4 f5 f6 f7 hla hca sla sca hst sst hro sro hse sse hlh hsh hk2 hlt
  go_upto_region 4 with fail
  go_cut [10, 11] (fun p q wx => ∃ B1 B2, p = .pointer (some ⟨B1, 0, none⟩) ∧ q = .pointer (some ⟨B2, 0, none⟩) ∧ wx.heap[B1]? = some (.cells #[.int .i64 s.id, .string s.fr, .string s.dst, .int .i64 s.dep, .int .i64 s.arr, .slice la s.la.n lc, .slice ca s.ca.n cc, .int .i64 s.most] 56 (0, 0)) ∧ wx.heap[B2]? = some (.cells #[.slice ast l.stn cst, .slice aro l.ron cro, .slice ase l.sen cse] 61 (0, 0)) ∧ Below V2.heap.size V2 wx)
  case first =>
    go_region_held3 (fun w' => w'.cell? ⟨w.heap.size, 0, none⟩ = some (.slice (some ⟨sb, so, none⟩) x.san csa) ∧ w'.cell? ⟨w.heap.size, 1, none⟩ = some (.slice (some ⟨lb, lo, none⟩) x.ldn cld) ∧
      w'.cell? ⟨sb, so + k * 8, none⟩ = some (.int .i64 s.id) ∧ w'.cell? ⟨sb, so + k * 8 + 1, none⟩ = some (.string s.fr) ∧ w'.cell? ⟨sb, so + k * 8 + 2, none⟩ = some (.string s.dst) ∧ w'.cell? ⟨sb, so + k * 8 + 3, none⟩ = some (.int .i64 s.dep) ∧ w'.cell? ⟨sb, so + k * 8 + 4, none⟩ = some (.int .i64 s.arr) ∧ w'.cell? ⟨sb, so + k * 8 + 5, none⟩ = some (.slice la s.la.n lc) ∧ w'.cell? ⟨sb, so + k * 8 + 6, none⟩ = some (.slice ca s.ca.n cc) ∧ w'.cell? ⟨sb, so + k * 8 + 7, none⟩ = some (.int .i64 s.most) ∧
      w'.cell? ⟨lb, lo + k * 3, none⟩ = some (.slice ast l.stn cst) ∧ w'.cell? ⟨lb, lo + k * 3 + 1, none⟩ = some (.slice aro l.ron cro) ∧ w'.cell? ⟨lb, lo + k * 3 + 2, none⟩ = some (.slice ase l.sen cse))
      ((refine KS.out _ ?_; exact (by repeat (first | exact Below.refl _ _ | refine Below.drew ?_ | refine push ?_ _ | refine Below.setCell ?_ (by simp) _))))
      (fail)
    all_goals
      go_wp2
      go_meet
      first
        | exact ⟨_, _, rfl, rfl, two_first _ _ _, two_second _ _ _, (push (push (Below.refl _ _) _) _).drew⟩
        | exact ⟨_, _, rfl, rfl, two_second _ _ _, two_first _ _ _, (push (push (Below.refl _ _) _) _).drew⟩
  case rest =>
  obtain ⟨B1, B2, rfl, rfl, bS, bL, hbc⟩ := hcut
  have hb3 := after hb2 hbc
  clear KS hb2 hbc bO2 hk0 hk1 hk3
  have s5 := blk_cell bS 5 _ rfl
  have l0 := blk_cell bL 0 _ rfl
  go_wp2_with fail
  refine (implFree_any la ast s.la.n lc l.stn cst s.la l.st _ rfl HSS.out.1 HLH.out.1 HST.out.2 (HLA.out.below hb3) (HST.out.1.below hb3)).mono ?_
  rintro e W1 ⟨⟨v1, rfl, ho1⟩, hbv⟩
  rw [freeLen_yes ((deck_iff _ _ _).1 HP.out.1)] at ho1
  rw [deckOk_yes ((deck_iff _ _ _).1 HP.out.1)]
  have HO1 : Hid (W1.ownsRow w.heap.size 3 1 v1 s.la.n (intList (left s.la l.st l.stn) s.la.n)) := own_base ho1 hb3.size
  have bS1 := blk_below bS hbv
  have bL1 := blk_below bL hbv
  have hb4 := after hb3 hbv
  clear bS bL hb3 hbv s5 l0 ho1
  have s6 := blk_cell bS1 6 _ rfl
  have l1 := blk_cell bL1 1 _ rfl
  go_wp2_with fail
  refine (implBerths_any ca aro s.ca.n cc l.ron cro s.ca l.ro _ rfl HSS.out.2 HLH.out.2.1 HRO.out.2 (HCA.out.below hb4) (HRO.out.1.below hb4)).mono ?_
  rintro e W2 ⟨⟨v2, rfl, ho2⟩, hbv⟩
  rw [berthsLen_yes HP.out.2.1] at ho2
  rw [roomsOk_yes HP.out.2.1]
  have HO2 : Hid (W2.ownsRow w.heap.size 3 1 v2 s.ca.n (intList (leftR s.ca l.ro l.ron) s.ca.n)) := own_base ho2 hb4.size
  have HAP : Hid (∀ b, v1.ownBlock = some b → v2.ownBlock ≠ some b) := fun b h1 h2 => by
    have a := (HO1.out.lt b h1).2
    have c := (ho2.lt b h2).1
    omega
  have HO3 : Hid (W2.ownsRow w.heap.size 3 1 v1 s.la.n (intList (left s.la l.st l.stn) s.la.n)) := own_below hbv HO1.out
  have bS2 := blk_below bS1 hbv
  have bL2 := blk_below bL1 hbv
  have hb5 := after hb4 hbv
  clear bS1 bL1 hb4 hbv s6 l1 ho2 HO1
  have s7 := blk_cell bS2 7 _ rfl
  have l2 := blk_cell bL2 2 _ rfl
  go_wp2_with fail
  refine (freeSeats_any s.most ase l.sen cse l.se _ (by have := HLH.out.2.2; omega) HSE.out.2 (HSE.out.1.below hb5)).mono ?_
  rintro e W3 ⟨he, hbv⟩
  have he2 : e = .returned (.tuple #[.int .i64 (s.most - sits l.se l.sen), .bool true]) := by
    rcases he with ⟨_, rfl⟩ | ⟨h, _⟩
    · rfl
    · exact absurd HP.out.2.2 h
  subst he2
  clear he s7 l2 bS2 bL2
  go_wp2
  exact bodyPost_ret (v := .tuple #[v1, v2, .int .i64 (s.most - sits l.se l.sen), .bool true]) (by simp [results, Tryz.results18, go_sem]) rfl ⟨leftV_yes HOK.out HKD.out HLT.out HSD.out HLL.out (own_below hbv HO3.out) (own_below hbv HO2.out) HAP.out, after hb5 hbv⟩

end Go.Proofs.YtlnadbnoemlpeaaGreat

namespace Go.Proofs.YtlnadbnoemlpeaaGreat
open Go.RowKit

/-- What is marked at place t from the number k0 on. -/
def stayMark (k0 : Int) (t : Nat) : Stay := ⟨k0 + 4 * t, k0 + 4 * t + 1, k0 + 4 * t + 2, k0 + 4 * t + 3⟩

set_option maxHeartbeats 1600000 in
set_option maxRecDepth 100000 in
theorem markStayS_own (ao : Option Addr) (n c base : Nat) (S : Nat → Stay) (k0 : Int) (w : World) (hn : n ≤ 2097152) (h0 : 0 ≤ k0) (h1 : k0 ≤ 1000000000000000) (ho : w.ownsRow base 118 4 (.slice ao n c) n (stayList S n)) :
    Calls Tryz.prog 98 #[.slice ao n c, .int .i64 k0] w fun e w' => e = .returned (.int .i64 (k0 + 4 * n)) ∧ w'.ownsRow base 118 4 (.slice ao n c) n (stayList (stayMark k0) n) ∧ Kept w w' (fun b => (Value.slice ao n c).ownBlock = some b) := by
  go_enter Tryz.func98, Tryz.ntmps98
  go_wp2
  go_loopw [1, 5] (fun q i wr => ∃ (t : Nat), t ≤ n ∧ i = .int .i64 t ∧ q = .int .i64 (k0 + 4 * t) ∧ wr.ownsRow base 118 4 (.slice ao n c) n ((List.range (n * 4)).map (stayCell (fun i => if i < t then stayMark k0 i else S i))) ∧ Kept w wr (fun b => (Value.slice ao n c).ownBlock = some b)) (fun _ i _ => n - (intOf i).toNat)
  case atStart => exact ⟨0, Nat.zero_le _, rfl, by simp, by simpa [stayList] using ho, Kept.refl _ _⟩
  case round =>
    obtain ⟨t, ht, rfl, rfl, hown, hk⟩ := hrel
    by_cases hlt : t < n
    · obtain ⟨g, rfl, hg1, hg2⟩ := own_addr hown (by omega)
      have hc0 := own_cell hown (t * 4) (by omega) rfl
      have hf0 := hown.frozenAt (t * 4)
      rw [stayCell_0] at hc0
      have hc1 := own_cell hown (t * 4 + 1) (by omega) rfl
      have hf1 := hown.frozenAt (t * 4 + 1)
      rw [stayCell_1] at hc1
      have hc2 := own_cell hown (t * 4 + 2) (by omega) rfl
      have hf2 := hown.frozenAt (t * 4 + 2)
      rw [stayCell_2] at hc2
      have hc3 := own_cell hown (t * 4 + 3) (by omega) rfl
      have hf3 := hown.frozenAt (t * 4 + 3)
      rw [stayCell_3] at hc3
      go_wp2
      go_roundw
      case rel =>
        refine ⟨t + 1, by omega, by go_num, by go_num, own_congr (own_store (own_store (own_store (own_store hown (t * 4) _) (t * 4 + 1) _) (t * 4 + 2) _) (t * 4 + 3) _) (fun j hj => ?_), ((((hk.set (a := ⟨g, t * 4, none⟩) rfl _).set (a := ⟨g, t * 4 + 1, none⟩) rfl _).set (a := ⟨g, t * 4 + 2, none⟩) rfl _).set (a := ⟨g, t * 4 + 3, none⟩) rfl _)⟩
        have key : ∀ (S' : Nat → Stay), (∀ i, i ≠ t → S' i = (if i < t then stayMark k0 i else S i)) → (S' t = stayMark k0 t) → stayCell S' j = stayCell (fun i => if i < t + 1 then stayMark k0 i else S i) j := by
          intro S' h1 h2
          unfold stayCell
          have : S' (j / 4) = (if j / 4 < t + 1 then stayMark k0 (j / 4) else S (j / 4)) := by
            by_cases e : j / 4 = t
            · rw [e, h2, if_pos (by omega)]
            · rw [h1 _ e]
              by_cases e2 : j / 4 < t
              · rw [if_pos e2, if_pos (by omega)]
              · rw [if_neg e2, if_neg (by omega)]
          rw [this]
        rw [← key (fun i => if i = t then stayMark k0 t else if i < t then stayMark k0 i else S i) (fun i h => if_neg h) (if_pos rfl)]
        by_cases h3 : j = t * 4 + 3
        · subst h3; rw [if_pos rfl, stayCell_3, if_pos rfl]; simp [stayMark]; try omega
        rw [if_neg h3]
        by_cases h2 : j = t * 4 + 2
        · subst h2; rw [if_pos rfl, stayCell_2, if_pos rfl]; simp [stayMark]; try omega
        rw [if_neg h2]
        by_cases h1 : j = t * 4 + 1
        · subst h1; rw [if_pos rfl, stayCell_1, if_pos rfl]; simp [stayMark]; try omega
        rw [if_neg h1]
        by_cases h0 : j = t * 4
        · subst h0; rw [if_pos rfl, stayCell_0, if_pos rfl]; simp [stayMark]; try omega
        rw [if_neg h0]
        have hne : j / 4 ≠ t := by omega
        unfold stayCell
        simp only [if_neg hne]
      case measure => simp [intOf]; omega
    · obtain rfl : t = n := by omega
      go_wp2
      go_ret
      refine ⟨rfl, ?_, hk⟩
      rw [stayList_congr (S := stayMark k0) (S' := fun i => if i < t then stayMark k0 i else S i) (fun i hi => (if_pos hi).symm)]
      exact hown

end Go.Proofs.YtlnadbnoemlpeaaGreat
