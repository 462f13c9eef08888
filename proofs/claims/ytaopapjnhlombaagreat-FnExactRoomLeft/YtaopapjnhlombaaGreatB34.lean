/-
  OWN TEXT: LeftI, LOffice, MarkStay.
-/
import Derived.Test.YtaopapjnhlombaaGreatB33
import Derived.Test.YtaopapjnhlombaaGreatB10
import Derived.Test.YtaopapjnhlombaaGreatB03
namespace Go.Proofs.YtaopapjnhlombaaGreat
open Go.RowKit Classical

theorem leftV_no {x : Off} {z : Int} {base ti : Nat} {w : World} (h : ¬ (OffOk x ∧ findIx x.sa z x.san < x.san)) : LeftV x z base ti (.returned (.tuple #[.slice none 0 0, .slice none 0 0, .int .i64 0, .bool false])) w := by
  have hl : ¬ LOk x z := h
  refine ⟨.slice none 0 0, .slice none 0 0, ?_, ?_, ?_, ?_⟩
  · unfold lM lOk; rw [if_neg hl]; simp [hl]
  · unfold lN1; rw [if_neg hl]; exact own_nil _ _ _ _
  · unfold lN2; rw [if_neg hl]; exact own_nil _ _ _ _
  · intro b hb; simp [Value.ownBlock] at hb
theorem leftV_yes {x : Off} {z : Int} {k base ti : Nat} {v1 v2 : Value} {w : World} {s : Sail} {l : Load} (ho : OffOk x) (hk : findIx x.sa z x.san = k) (hlt : k < x.san) (hs : s = x.sa k) (hl : l = x.ld k)
    (h1 : w.ownsRow base ti 1 v1 s.la.n (intList (left s.la l.st l.stn) s.la.n)) (h2 : w.ownsRow base ti 1 v2 s.ca.n (intList (leftR s.ca l.ro l.ron) s.ca.n)) (ha : ∀ b, v1.ownBlock = some b → v2.ownBlock ≠ some b) :
    LeftV x z base ti (.returned (.tuple #[v1, v2, .int .i64 (s.most - sits l.se l.sen), .bool true])) w := by
  have hl' : LOk x z := ⟨ho, by rw [hk]; exact hlt⟩
  subst hs
  subst hl
  refine ⟨v1, v2, ?_, ?_, ?_, ha⟩
  · unfold lM lOk; rw [if_pos hl', hk]; simp [hl']
  · unfold lN1 lF1; rw [if_pos hl', hk]; exact h1
  · unfold lN2 lF2; rw [if_pos hl', hk]; exact h2

theorem two_first (w : World) (o1 o2 : Obj) : ((w.alloc o1).alloc o2).drew.heap[w.heap.size]? = some o1 := blk_drew (blk_alloc (heap_alloc_new w o1) o2)
theorem two_second (w : World) (o1 o2 : Obj) : ((w.alloc o1).alloc o2).drew.heap[w.heap.size + 1]? = some o2 := blk_drew (by simpa using heap_alloc_new (w.alloc o1) o2)

set_option maxHeartbeats 6400000 in
set_option maxRecDepth 100000 in
theorem implLeft_any (cs : List Value) (x : Off) (z : Int) (w : World) (hs : Off.Short x 1048576) (h : Off.Is w cs x) :
    Calls Tryz.prog 8 #[.agg cs.toArray, .int .i64 z] w fun e w' => LeftV x z w.heap.size 3 e w' ∧ Below w.heap.size w w' := by
  obtain ⟨asa, csa, ald, cld, abk, cbk, rfl, hsa, _, hld, _, hbk, sbk⟩ := h
  have HSA : Hid (SailsAt w asa x.san x.sa) := hsa
  have HLD : Hid (LoadsAt w ald x.ldn x.ld) := hld
  have HBK : Hid (BooksAt w abk x.bkn x.bk) := hbk
  have HSH : Hid (Off.Short x 1048576) := hs
  have HCB : Hid (x.bkn ≤ cbk) := sbk.1
  have n1 : x.san ≤ 1048576 := hs.1.1
  clear hsa hld hbk hs sbk
  have hb0 : Below w.heap.size w (w.alloc (.cells #[.slice asa x.san csa, .slice ald x.ldn cld, .slice abk x.bkn cbk] 35)) := push (Below.refl _ _) _
  have bO := heap_alloc_new w (.cells #[.slice asa x.san csa, .slice ald x.ldn cld, .slice abk x.bkn cbk] 35)
  go_enter Tryz.func8, Tryz.ntmps8
  go_wp2_with fail
  generalize w.alloc (.cells #[.slice asa x.san csa, .slice ald x.ldn cld, .slice abk x.bkn cbk] 35) = V0 at hb0 bO ⊢
  refine (findSailing_any asa x.san csa x.sa z _ n1 (HSA.out.below hb0)).mono ?_
  rintro e V ⟨hr, hbv⟩
  have bO1 := blk_below bO hbv
  have hb1 := after hb0 hbv
  clear hb0 bO hbv V0
  rcases hr with ⟨hk, rfl⟩ | ⟨hk, rfl⟩
  case inr =>
    have HN : Hid (¬ (OffOk x ∧ findIx x.sa z x.san < x.san)) := fun h => by have := h.2; omega
    clear hk
    go_wp2
    exact bodyPost_ret (v := .tuple #[.slice none 0 0, .slice none 0 0, .int .i64 0, .bool false]) (by simp [results, Tryz.results8, go_sem]) rfl ⟨leftV_no HN.out, hb1⟩
  obtain ⟨k, hkd⟩ : ∃ k, findIx x.sa z x.san = k := ⟨_, rfl⟩
  rw [hkd] at hk ⊢
  have HKD : Hid (findIx x.sa z x.san = k) := hkd
  have HLT : Hid (k < x.san) := hk
  clear hkd hk
  have z0 := blk_cell bO1 0 _ rfl
  have z1 := blk_cell bO1 1 _ rfl
  have z2 := blk_cell bO1 2 _ rfl
  go_wp2_with fail
  refine (implOff_raw x asa ald abk csa cld cbk _ HSH.out (HSA.out.below hb1) (HLD.out.below hb1) (HBK.out.below hb1) HCB.out).mono ?_
  rintro e V2 ⟨⟨t0, rfl, ht0⟩, hbv⟩
  have HT0 : Hid (t0 = true ↔ OffOk x) := ht0
  have bO2 := blk_below bO1 hbv
  have hb2 := after hb1 hbv
  clear ht0 hb1 bO1 hbv z0 z1 z2
  cases t0 with
  | false =>
    have HN : Hid (¬ (OffOk x ∧ findIx x.sa z x.san < x.san)) := fun h => by have := HT0.out.2 h.1; cases this
    go_wp2
    exact bodyPost_ret (v := .tuple #[.slice none 0 0, .slice none 0 0, .int .i64 0, .bool false]) (by simp [results, Tryz.results8, go_sem]) rfl ⟨leftV_no HN.out, hb2⟩
  | true =>
  have HOK : Hid (OffOk x) := HT0.out.1 rfl
  clear HT0
  have hlt := HLT.out
  obtain ⟨sb, so, la, lc, ca, cc, rfl, f0, f1, f2, f3, f4, f5, f6, f7, hla, hca, sla, sca⟩ := HSA.out k hlt
  obtain ⟨s, hsd⟩ : ∃ s, s = x.sa k := ⟨_, rfl⟩
  have hsh := HSH.out.1.2 k hlt
  rw [← hsd] at f0 f1 f2 f3 f4 f5 f6 f7 hla hca sla sca hsh
  have HSD : Hid (s = x.sa k) := hsd
  have lsb := World.block_lt_of_cell? w _ f0
  obtain ⟨D, hD, hJ⟩ := HLD.out
  have hk2 : k < x.ldn := by have := HOK.out.2.1; omega
  obtain ⟨lb, lo, rfl, hc⟩ := hD k hk2
  obtain ⟨l, hld⟩ : ∃ l, l = x.ld k := ⟨_, rfl⟩
  have hlh := HSH.out.2.1.2 k hk2
  obtain ⟨ast, cst, aro, cro, ase, cse, eC, hst, sst, hro, sro, hse, sse⟩ := hJ k hk2
  rw [← hld] at eC hst sst hro sro hse sse hlh
  have HLL : Hid (l = x.ld k) := hld
  have llb : lb < w.heap.size := World.block_lt_of_cell? w _ (hc 0 (by decide))
  have hok := HOK.out.2.2.2.1 k hlt
  rw [← hsd, ← hld] at hok
  have HP : Hid (LoadOk s l) := hok
  have HLA : Hid (PairsAt w la s.la) := hla
  have HCA : Hid (PairsAt w ca s.ca) := hca
  have HST : Hid (StaysAt w ast l.stn l.st ∧ l.stn ≤ cst) := ⟨hst, sst.1⟩
  have HRO : Hid (RoomsAt w aro l.ron l.ro ∧ l.ron ≤ cro) := ⟨hro, sro.1⟩
  have HSE : Hid (SeatsAt w ase l.sen l.se ∧ l.sen ≤ cse) := ⟨hse, sse.1⟩
  have HLH : Hid (Load.Short l 1048576) := hlh
  have HSS : Hid (s.la.n ≤ 1048576 ∧ s.ca.n ≤ 1048576) := ⟨hsh.2.2.1, hsh.2.2.2⟩
  have KS : Hid (∀ w', Below V2.heap.size V2 w' → (w'.cell? ⟨w.heap.size, 0, none⟩ = some (.slice (some ⟨sb, so, none⟩) x.san csa) ∧ w'.cell? ⟨w.heap.size, 1, none⟩ = some (.slice (some ⟨lb, lo, none⟩) x.ldn cld) ∧
      w'.cell? ⟨sb, so + k * 8, none⟩ = some (.int .i64 s.id) ∧ w'.cell? ⟨sb, so + k * 8 + 1, none⟩ = some (.string s.fr) ∧ w'.cell? ⟨sb, so + k * 8 + 2, none⟩ = some (.string s.dst) ∧ w'.cell? ⟨sb, so + k * 8 + 3, none⟩ = some (.int .i64 s.dep) ∧ w'.cell? ⟨sb, so + k * 8 + 4, none⟩ = some (.int .i64 s.arr) ∧ w'.cell? ⟨sb, so + k * 8 + 5, none⟩ = some (.slice la s.la.n lc) ∧ w'.cell? ⟨sb, so + k * 8 + 6, none⟩ = some (.slice ca s.ca.n cc) ∧ w'.cell? ⟨sb, so + k * 8 + 7, none⟩ = some (.int .i64 s.most) ∧
      w'.cell? ⟨lb, lo + k * 3, none⟩ = some (.slice ast l.stn cst) ∧ w'.cell? ⟨lb, lo + k * 3 + 1, none⟩ = some (.slice aro l.ron cro) ∧ w'.cell? ⟨lb, lo + k * 3 + 2, none⟩ = some (.slice ase l.sen cse))) := fun w' h => by
    have g2 := blk_below bO2 h
    have g3 := after hb2 h
    exact ⟨blk_cell g2 0 _ rfl, blk_cell g2 1 _ rfl, (g3.cell (p := ⟨sb, so + k * 8, none⟩) lsb).trans f0, (g3.cell (p := ⟨sb, so + k * 8 + 1, none⟩) lsb).trans f1, (g3.cell (p := ⟨sb, so + k * 8 + 2, none⟩) lsb).trans f2, (g3.cell (p := ⟨sb, so + k * 8 + 3, none⟩) lsb).trans f3, (g3.cell (p := ⟨sb, so + k * 8 + 4, none⟩) lsb).trans f4, (g3.cell (p := ⟨sb, so + k * 8 + 5, none⟩) lsb).trans f5, (g3.cell (p := ⟨sb, so + k * 8 + 6, none⟩) lsb).trans f6, (g3.cell (p := ⟨sb, so + k * 8 + 7, none⟩) lsb).trans f7,
      (g3.cell (p := ⟨lb, lo + k * 3, none⟩) llb).trans (by have := hc 0 (by decide); rw [eC] at this; exact this), (g3.cell (p := ⟨lb, lo + k * 3 + 1, none⟩) llb).trans (by have := hc 1 (by decide); rw [eC] at this; exact this), (g3.cell (p := ⟨lb, lo + k * 3 + 2, none⟩) llb).trans (by have := hc 2 (by decide); rw [eC] at this; exact this)⟩
  have hk0 : (0 : Int) ≤ (k : Int) := by omega
  have hk1 : (k : Int) < (x.ldn : Int) := by omega
  have hk3 : (k : Int) < (x.san : Int) := by omega
  clear hok hD hJ hc eC hsd hld f0 f1 f2 f3 f4 f5 f6 f7 hla hca sla sca hst sst hro sro hse sse hlh hsh hk2 hlt
  have HC : Hid (∀ w', Below V2.heap.size V2 w' → Calls Tryz.prog 32 #[.agg #[.int .i64 s.id, .string s.fr, .string s.dst, .int .i64 s.dep, .int .i64 s.arr, .slice la s.la.n lc, .slice ca s.ca.n cc, .int .i64 s.most], .agg #[.slice ast l.stn cst, .slice aro l.ron cro, .slice ase l.sen cse]] w' fun e w2 => OnV s l w'.heap.size 3 e w2 ∧ Below w'.heap.size w' w2) := fun w' h =>
    leftOn_any s l la ca ast aro ase lc cc cst cro cse w' HP.out HSS.out HLH.out (HLA.out.below (after hb2 h)) (HCA.out.below (after hb2 h)) ⟨HST.out.1.below (after hb2 h), HST.out.2⟩ ⟨HRO.out.1.below (after hb2 h), HRO.out.2⟩ ⟨HSE.out.1.below (after hb2 h), HSE.out.2⟩
  go_upto_region 4 with fail
  go_region_held3 (fun w' => w'.cell? ⟨w.heap.size, 0, none⟩ = some (.slice (some ⟨sb, so, none⟩) x.san csa) ∧ w'.cell? ⟨w.heap.size, 1, none⟩ = some (.slice (some ⟨lb, lo, none⟩) x.ldn cld) ∧
      w'.cell? ⟨sb, so + k * 8, none⟩ = some (.int .i64 s.id) ∧ w'.cell? ⟨sb, so + k * 8 + 1, none⟩ = some (.string s.fr) ∧ w'.cell? ⟨sb, so + k * 8 + 2, none⟩ = some (.string s.dst) ∧ w'.cell? ⟨sb, so + k * 8 + 3, none⟩ = some (.int .i64 s.dep) ∧ w'.cell? ⟨sb, so + k * 8 + 4, none⟩ = some (.int .i64 s.arr) ∧ w'.cell? ⟨sb, so + k * 8 + 5, none⟩ = some (.slice la s.la.n lc) ∧ w'.cell? ⟨sb, so + k * 8 + 6, none⟩ = some (.slice ca s.ca.n cc) ∧ w'.cell? ⟨sb, so + k * 8 + 7, none⟩ = some (.int .i64 s.most) ∧
      w'.cell? ⟨lb, lo + k * 3, none⟩ = some (.slice ast l.stn cst) ∧ w'.cell? ⟨lb, lo + k * 3 + 1, none⟩ = some (.slice aro l.ron cro) ∧ w'.cell? ⟨lb, lo + k * 3 + 2, none⟩ = some (.slice ase l.sen cse))
      ((refine KS.out _ ?_; exact (by repeat (first | exact Below.refl _ _ | refine Below.drew ?_ | refine after ?_ hbb | refine push ?_ _))))
      (first | (go_at_call 32; refine Calls.mono (HC.out _ (by repeat (first | exact Below.refl _ _ | refine Below.drew ?_))) ?_; rintro e w9 ⟨⟨v1, v2, rfl, o1, o2, oa⟩, hbb⟩))
  have hb5 : Below w.heap.size w w9 := after (after hb2 (Below.refl _ V2).drew) hbb
  have HO1 : Hid (w9.ownsRow w.heap.size 3 1 v1 s.la.n (intList (left s.la l.st l.stn) s.la.n)) := own_base o1 (after hb2 (Below.refl _ V2).drew).size
  have HO2 : Hid (w9.ownsRow w.heap.size 3 1 v2 s.ca.n (intList (leftR s.ca l.ro l.ron) s.ca.n)) := own_base o2 (after hb2 (Below.refl _ V2).drew).size
  have HAP : Hid (∀ b, v1.ownBlock = some b → v2.ownBlock ≠ some b) := oa
  clear o1 o2 oa hbb KS HC hb2 bO2
  go_wp2
  exact bodyPost_ret (v := .tuple #[v1, v2, .int .i64 (s.most - sits l.se l.sen), .bool true]) (by simp [results, Tryz.results8, go_sem]) rfl ⟨leftV_yes HOK.out HKD.out HLT.out HSD.out HLL.out HO1.out HO2.out HAP.out, hb5⟩

end Go.Proofs.YtaopapjnhlombaaGreat

namespace Go.Proofs.YtaopapjnhlombaaGreat
open Go.RowKit

set_option maxHeartbeats 800000 in
theorem szOffice_any (cs : List Value) (x : Off) (w : World) (hs : Off.Short x 1000000000000000) (h : Off.Is w cs x) :
    Calls Tryz.prog 5 #[.agg cs.toArray, .int .i64 1048576] w fun e w' => ∃ r : Int, e = .returned (.int .i64 r) ∧ (r = -1 ∨ (0 ≤ r ∧ r ≤ 1048576 ∧ Off.Short x 1048576)) ∧ Below w.heap.size w w' := by
  obtain ⟨asa, csa, ald, cld, abk, cbk, rfl, h1, s1, h2, s2, h3, s3⟩ := h
  obtain ⟨⟨b1, t1⟩, ⟨b2, t2⟩, ⟨b3, t3⟩⟩ := hs
  have hb0 : Below w.heap.size w (w.alloc (.cells #[.slice asa x.san csa, .slice ald x.ldn cld, .slice abk x.bkn cbk] 26)) := push (Below.refl _ _) _
  have hA0 := heap_alloc_new w (.cells #[.slice asa x.san csa, .slice ald x.ldn cld, .slice abk x.bkn cbk] 26)
  clear s1 s2 s3
  go_enter Tryz.func5, Tryz.ntmps5
  go_wp2_with fail
  refine (szSailingS_le asa x.san csa x.sa _ b1 t1 (h1.below hb0)).mono ?_
  rintro e v1 ⟨r1, rfl, hr1, hb⟩
  have hA1 := blk_below hA0 hb
  have hb1 := after hb0 hb
  clear hA0 hb0 hb
  rcases hr1 with rfl | ⟨p1, p2, p3, p4⟩
  · go_wp2
    go_ret
    exact ⟨_, rfl, .inl rfl, hb1⟩
  · have d1 : decide (r1 < 0) = false := by simpa using p1
    have q1 := blk_cell hA1 1 _ rfl
    go_wp2_with fail
    refine (szLoadS_any ald x.ldn cld x.ld r1 _ p1 p2 b2 t2 (h2.below hb1)).mono ?_
    rintro e v2 ⟨r2, rfl, hr2, hb⟩
    have hA2 := blk_below hA1 hb
    have hb2 := after hb1 hb
    clear hA1 hb1 hb q1
    rcases hr2 with rfl | ⟨q1, q2, q3, q4⟩
    · go_wp2
      go_ret
      exact ⟨_, rfl, .inl rfl, hb2⟩
    · have d2 : decide (r2 < 0) = false := by simpa using q1
      have k2 := blk_cell hA2 2 _ rfl
      go_wp2_with fail
      refine (szBookingS_any abk x.bkn cbk x.bk r2 _ q1 (by omega) b3 t3 (h3.below hb2)).mono ?_
      rintro e v3 ⟨r3, rfl, hr3, hb⟩
      have hb3 := after hb2 hb
      clear hb2 hb k2
      rcases hr3 with rfl | ⟨u1, u2, u3, u4⟩
      · go_wp2
        go_ret
        exact ⟨_, rfl, .inl rfl, hb3⟩
      · have d3 : decide (r3 < 0) = false := by simpa using u1
        go_wp2
        go_ret
        exact ⟨_, rfl, .inr ⟨u1, by omega, ⟨p3, p4⟩, ⟨q3, q4⟩, ⟨u3, u4⟩⟩, hb3⟩

theorem off_set_0 {w : World} {g t : Nat} {u0 u1 u2 v0 : Value} (h : w.heap[g]? = some (.cells #[u0, u1, u2] t (0, 0))) : (w.setCell ⟨g, 0, none⟩ v0).heap[g]? = some (.cells #[v0, u1, u2] t (0, 0)) := by
  simpa using blk_set h 0 v0

theorem off_set_1 {w : World} {g t : Nat} {u0 u1 u2 v1 : Value} (h : w.heap[g]? = some (.cells #[u0, u1, u2] t (0, 0))) : (w.setCell ⟨g, 1, none⟩ v1).heap[g]? = some (.cells #[u0, v1, u2] t (0, 0)) := by
  simpa using blk_set h 1 v1

theorem off_set_2 {w : World} {g t : Nat} {u0 u1 u2 v2 : Value} (h : w.heap[g]? = some (.cells #[u0, u1, u2] t (0, 0))) : (w.setCell ⟨g, 2, none⟩ v2).heap[g]? = some (.cells #[u0, u1, v2] t (0, 0)) := by
  simpa using blk_set h 2 v2

theorem kept_one (w : World) (g i : Nat) (v : Value) : Kept w (w.setCell ⟨g, i, none⟩ v) (fun b => b = g) := (Kept.refl w (fun b => b = g)).set (a := ⟨g, i, none⟩) rfl v

set_option maxHeartbeats 1600000 in
set_option maxRecDepth 100000 in
theorem toOffice_any (cs : List Value) (x : Off) (w : World) (hs : Off.Short x 1048576) (h : Off.Is w cs x) :
    Calls Tryz.prog 7 #[.agg cs.toArray] w fun e w' => ∃ cs', e = .returned (.agg cs'.toArray) ∧ Off.In w' w.heap.size w'.heap.size cs' x ∧ Below w.heap.size w w' := by
  obtain ⟨asa, csa, ald, cld, abk, cbk, rfl, h1, s1, h2, s2, h3, s3⟩ := h
  obtain ⟨⟨b1, t1⟩, ⟨b2, t2⟩, ⟨b3, t3⟩⟩ := hs
  clear s1 s2 s3
  go_enter Tryz.func7, Tryz.ntmps7
  go_wp2_with fail
  obtain ⟨W0, hW0⟩ : ∃ W, W = (((w.alloc (.cells #[.slice asa x.san csa, .slice ald x.ldn cld, .slice abk x.bkn cbk] 26)).alloc (.cells #[.slice none 0 0, .slice none 0 0, .slice none 0 0] 35)).alloc (.cells #[.slice none 0 0, .slice none 0 0, .slice none 0 0] 35)) := ⟨_, rfl⟩
  have H0 : Below w.heap.size w W0 := by rw [hW0]; exact push (push (push (Below.refl _ _) _) _) _
  have A0 : W0.heap[w.heap.size]? = some (.cells #[.slice asa x.san csa, .slice ald x.ldn cld, .slice abk x.bkn cbk] 26 (0, 0)) := by rw [hW0]; exact blk_alloc (blk_alloc (heap_alloc_new w _) _) _
  have R0 : W0.heap[w.heap.size + 1]? = some (.cells #[.slice none 0 0, .slice none 0 0, .slice none 0 0] 35 (0, 0)) := by rw [hW0]; exact blk_alloc (by simpa using heap_alloc_new (w.alloc _) _) _
  have O0 : W0.heap[w.heap.size + 1 + 1]? = some (.cells #[.slice none 0 0, .slice none 0 0, .slice none 0 0] 35 (0, 0)) := by rw [hW0]; simpa using heap_alloc_new ((w.alloc _).alloc _) _
  rw [← hW0]
  clear hW0
  have gO := blk_lt O0
  refine (toSailingS_any asa x.san csa x.sa _ b1 t1 (h1.below H0)).mono ?_
  rintro e v0 ⟨gsa, ls, cc, rfl, m0, hb⟩
  have M0 := m0.high
  have Av := blk_below A0 hb
  have Rv := blk_below R0 hb
  have Ov := blk_below O0 hb
  have Hv := after H0 hb
  have sz0 := hb.size
  clear A0 R0 O0 H0 hb m0
  have qa1 := blk_cell Av 1 _ rfl
  have fo := blk_free Ov 0
  have qo0 := blk_cell Ov 0 _ rfl
  go_wp2_with fail
  clear fo qo0 qa1
  obtain ⟨W1, hW⟩ : ∃ W, W = v0.setCell ⟨w.heap.size + 1 + 1, 0, none⟩ (.slice (some ⟨gsa, 0, none⟩) x.san x.san) := ⟨_, rfl⟩
  have hk : Kept v0 W1 (fun b => b = w.heap.size + 1 + 1) := by rw [hW]; exact kept_one _ _ _ _
  have A1 := hk.blk Av (by omega)
  have R1 := hk.blk Rv (by omega)
  have O1 : W1.heap[w.heap.size + 1 + 1]? = some (.cells #[.slice (some ⟨gsa, 0, none⟩) x.san x.san, .slice none 0 0, .slice none 0 0] 35 (0, 0)) := by rw [hW]; exact off_set_0 Ov
  have H1 : Below w.heap.size w W1 := by rw [hW]; exact Hv.setCell (p := ⟨w.heap.size + 1 + 1, 0, none⟩) (by show w.heap.size ≤ w.heap.size + 1 + 1; omega) _
  have hz : W1.heap.size = v0.heap.size := by rw [hW, World.size_setCell]
  have M0' := M0.kept hk (fun b h => by left; omega)
  rw [← hW]
  rw [← hz] at M0' sz0
  clear hW hk Av Rv Ov Hv M0
  have M0 := M0'
  clear M0'
  clear hz
  refine (toLoadS_any ald x.ldn cld x.ld _ b2 t2 (h2.below H1)).mono ?_
  rintro e v1 ⟨gld, C, rfl, M1, hb⟩
  have Av := blk_below A1 hb
  have Rv := blk_below R1 hb
  have Ov := blk_below O1 hb
  have Hv := after H1 hb
  have sz1 := hb.size
  have M0' := M0.below hb
  clear A1 R1 O1 H1 hb M0
  have M0 := M0'
  clear M0'
  have qa2 := blk_cell Av 2 _ rfl
  have fo := blk_free Ov 1
  have qo1 := blk_cell Ov 1 _ rfl
  go_wp2_with fail
  clear fo qo1 qa2
  obtain ⟨W2, hW⟩ : ∃ W, W = v1.setCell ⟨w.heap.size + 1 + 1, 1, none⟩ (.slice (some ⟨gld, 0, none⟩) x.ldn x.ldn) := ⟨_, rfl⟩
  have hk : Kept v1 W2 (fun b => b = w.heap.size + 1 + 1) := by rw [hW]; exact kept_one _ _ _ _
  have A2 := hk.blk Av (by omega)
  have R2 := hk.blk Rv (by omega)
  have O2 : W2.heap[w.heap.size + 1 + 1]? = some (.cells #[.slice (some ⟨gsa, 0, none⟩) x.san x.san, .slice (some ⟨gld, 0, none⟩) x.ldn x.ldn, .slice none 0 0] 35 (0, 0)) := by rw [hW]; exact off_set_1 Ov
  have H2 : Below w.heap.size w W2 := by rw [hW]; exact Hv.setCell (p := ⟨w.heap.size + 1 + 1, 1, none⟩) (by show w.heap.size ≤ w.heap.size + 1 + 1; omega) _
  have hz : W2.heap.size = v1.heap.size := by rw [hW, World.size_setCell]
  have M0' := M0.kept hk (fun b h => by left; omega)
  have M1' := M1.kept hk (fun b h => by left; omega)
  rw [← hW]
  rw [← hz] at M1' sz1
  clear hW hk Av Rv Ov Hv M0 M1
  have M0 := M0'
  clear M0'
  have M1 := M1'
  clear M1'
  clear hz
  refine (toBookingS_any abk x.bkn cbk x.bk _ b3 t3 (h3.below H2)).mono ?_
  rintro e v2 ⟨gbk, E, rfl, M2, hb⟩
  have Av := blk_below A2 hb
  have Rv := blk_below R2 hb
  have Ov := blk_below O2 hb
  have Hv := after H2 hb
  have sz2 := hb.size
  have M0' := M0.below hb
  have M1' := M1.below hb
  clear A2 R2 O2 H2 hb M0 M1
  have M0 := M0'
  clear M0'
  have M1 := M1'
  clear M1'
  have fo := blk_free Ov 2
  have qo2 := blk_cell Ov 2 _ rfl
  have qo0 := blk_cell Ov 0 _ rfl
  have qo1 := blk_cell Ov 1 _ rfl
  have z0 := blk_free Rv 0
  have y0 := blk_cell Rv 0 _ rfl
  have z1 := blk_free Rv 1
  have y1 := blk_cell Rv 1 _ rfl
  have z2 := blk_free Rv 2
  have y2 := blk_cell Rv 2 _ rfl
  go_wp2
  clear fo qo0 qo1 qo2 z0 y0 z1 y1 z2 y2
  obtain ⟨W3, hW⟩ : ∃ W, W = v2.setCell ⟨w.heap.size + 1 + 1, 2, none⟩ (.slice (some ⟨gbk, 0, none⟩) x.bkn x.bkn) := ⟨_, rfl⟩
  have hk : Kept v2 W3 (fun b => b = w.heap.size + 1 + 1) := by rw [hW]; exact kept_one _ _ _ _
  have A3 := hk.blk Av (by omega)
  have R3 := hk.blk Rv (by omega)
  have O3 : W3.heap[w.heap.size + 1 + 1]? = some (.cells #[.slice (some ⟨gsa, 0, none⟩) x.san x.san, .slice (some ⟨gld, 0, none⟩) x.ldn x.ldn, .slice (some ⟨gbk, 0, none⟩) x.bkn x.bkn] 35 (0, 0)) := by rw [hW]; exact off_set_2 Ov
  have H3 : Below w.heap.size w W3 := by rw [hW]; exact Hv.setCell (p := ⟨w.heap.size + 1 + 1, 2, none⟩) (by show w.heap.size ≤ w.heap.size + 1 + 1; omega) _
  have hz : W3.heap.size = v2.heap.size := by rw [hW, World.size_setCell]
  have M0' := M0.kept hk (fun b h => by left; omega)
  have M1' := M1.kept hk (fun b h => by left; omega)
  have M2' := M2.kept hk (fun b h => by left; omega)
  rw [← hW]
  rw [← hz] at M2' sz2
  clear hW hk Av Rv Ov Hv M0 M1 M2
  have M0 := M0'
  clear M0'
  have M1 := M1'
  clear M1'
  have M2 := M2'
  clear M2'
  obtain ⟨F, hF⟩ : ∃ F, F = ((W3.setCell ⟨w.heap.size + 1, 0, none⟩ (.slice (some ⟨gsa, 0, none⟩) x.san x.san)).setCell ⟨w.heap.size + 1, 1, none⟩ (.slice (some ⟨gld, 0, none⟩) x.ldn x.ldn)).setCell ⟨w.heap.size + 1, 2, none⟩ (.slice (some ⟨gbk, 0, none⟩) x.bkn x.bkn) := ⟨_, rfl⟩
  have hk : Kept W3 F (fun b => b = w.heap.size + 1) := by rw [hF]; exact (((Kept.refl W3 (fun b => b = w.heap.size + 1)).set (a := ⟨w.heap.size + 1, 0, none⟩) rfl _).set (a := ⟨w.heap.size + 1, 1, none⟩) rfl _).set (a := ⟨w.heap.size + 1, 2, none⟩) rfl _
  have RF : F.heap[w.heap.size + 1]? = some (.cells #[.slice (some ⟨gsa, 0, none⟩) x.san x.san, .slice (some ⟨gld, 0, none⟩) x.ldn x.ldn, .slice (some ⟨gbk, 0, none⟩) x.bkn x.bkn] 35 (0, 0)) := by rw [hF]; exact off_set_2 (off_set_1 (off_set_0 R3))
  have HF : Below w.heap.size w F := by rw [hF]; exact ((H3.setCell (p := ⟨w.heap.size + 1, 0, none⟩) (by show w.heap.size ≤ w.heap.size + 1; omega) _).setCell (p := ⟨w.heap.size + 1, 1, none⟩) (by show w.heap.size ≤ w.heap.size + 1; omega) _).setCell (p := ⟨w.heap.size + 1, 2, none⟩) (by show w.heap.size ≤ w.heap.size + 1; omega) _
  have hz : F.heap.size = W3.heap.size := by rw [hF, World.size_setCell, World.size_setCell, World.size_setCell]
  rw [← hF]
  clear hF
  have z0 := blk_cell RF 0 _ rfl
  have z1 := blk_cell RF 1 _ rfl
  have z2 := blk_cell RF 2 _ rfl
  have N0 := (M0.kept hk (fun b h => by left; omega)).wide (lo' := w.heap.size) (hi' := W1.heap.size) (by omega) (by omega)
  have N1 := (M1.kept hk (fun b h => by left; omega)).wide (lo' := W1.heap.size) (hi' := W2.heap.size) (by omega) (by omega)
  have N2 := (M2.kept hk (fun b h => by left; omega)).wide (lo' := W2.heap.size) (hi' := F.heap.size) (by omega) (by omega)
  exact bodyPost_ret (v := .agg #[.slice (some ⟨gsa, 0, none⟩) x.san x.san, .slice (some ⟨gld, 0, none⟩) x.ldn x.ldn, .slice (some ⟨gbk, 0, none⟩) x.bkn x.bkn]) (by simp [results, Tryz.results7, go_sem, z0, z1, z2]) rfl ⟨_, rfl, ⟨W1.heap.size, W2.heap.size, gsa, ls, cc, gld, C, gbk, E, rfl, ⟨by omega, by omega, by omega⟩, N0, N1, N2⟩, HF⟩

set_option maxHeartbeats 1600000 in
set_option maxRecDepth 100000 in
theorem eqOffice_same (cs ds : List Value) (x : Off) (w : World) (hs : Off.Short x 1048576) (h : Off.Is w cs x) (h' : Off.Is w ds x) :
    Calls Tryz.prog 10 #[.agg cs.toArray, .agg ds.toArray] w fun e w' => e = .returned (.bool true) ∧ Below w.heap.size w w' := by
  obtain ⟨asa, csa, ald, cld, abk, cbk, rfl, h1, s1, h2, s2, h3, s3⟩ := h
  obtain ⟨asb, csb, alb, clb, abb, cbb, rfl, k1, u1, k2, u2, k3, u3⟩ := h'
  obtain ⟨⟨b1, t1⟩, ⟨b2, t2⟩, ⟨b3, t3⟩⟩ := hs
  clear s1 s2 s3 u1 u2 u3
  have H0 : Below w.heap.size w ((w.alloc (.cells #[.slice asa x.san csa, .slice ald x.ldn cld, .slice abk x.bkn cbk] 35)).alloc (.cells #[.slice asb x.san csb, .slice alb x.ldn clb, .slice abb x.bkn cbb] 35)) := push (push (Below.refl _ _) _) _
  have A0 : ((w.alloc (.cells #[.slice asa x.san csa, .slice ald x.ldn cld, .slice abk x.bkn cbk] 35)).alloc (.cells #[.slice asb x.san csb, .slice alb x.ldn clb, .slice abb x.bkn cbb] 35)).heap[w.heap.size]? = some (.cells #[.slice asa x.san csa, .slice ald x.ldn cld, .slice abk x.bkn cbk] 35 (0, 0)) := blk_alloc (heap_alloc_new w _) _
  have B0 : ((w.alloc (.cells #[.slice asa x.san csa, .slice ald x.ldn cld, .slice abk x.bkn cbk] 35)).alloc (.cells #[.slice asb x.san csb, .slice alb x.ldn clb, .slice abb x.bkn cbb] 35)).heap[w.heap.size + 1]? = some (.cells #[.slice asb x.san csb, .slice alb x.ldn clb, .slice abb x.bkn cbb] 35 (0, 0)) := by simpa using heap_alloc_new (w.alloc _) _
  go_enter Tryz.func10, Tryz.ntmps10
  go_wp2_with fail
  generalize (w.alloc (.cells #[.slice asa x.san csa, .slice ald x.ldn cld, .slice abk x.bkn cbk] 35)).alloc (.cells #[.slice asb x.san csb, .slice alb x.ldn clb, .slice abb x.bkn cbb] 35) = v at H0 A0 B0 ⊢
  refine (eqSailingS_same asa asb x.san csa csb x.sa _ b1 t1 (h1.below H0) (k1.below H0)).mono ?_
  rintro e v0 ⟨rfl, hb⟩
  have A1 := blk_below A0 hb
  have B1 := blk_below B0 hb
  have H1 := after H0 hb
  clear A0 B0 H0 hb
  have qa := blk_cell A1 1 _ rfl
  have qb := blk_cell B1 1 _ rfl
  go_wp2_with fail
  clear qa qb
  refine (eqLoadS_same ald alb x.ldn cld clb x.ld _ b2 t2 (h2.below H1) (k2.below H1)).mono ?_
  rintro e v1 ⟨rfl, hb⟩
  have A2 := blk_below A1 hb
  have B2 := blk_below B1 hb
  have H2 := after H1 hb
  clear A1 B1 H1 hb
  have qa := blk_cell A2 2 _ rfl
  have qb := blk_cell B2 2 _ rfl
  go_wp2_with fail
  clear qa qb
  refine (eqBookingS_same abk abb x.bkn cbk cbb x.bk _ b3 t3 (h3.below H2) (k3.below H2)).mono ?_
  rintro e v2 ⟨rfl, hb⟩
  have A3 := blk_below A2 hb
  have B3 := blk_below B2 hb
  have H3 := after H2 hb
  clear A2 B2 H2 hb
  go_wp2
  go_ret
  exact ⟨rfl, H3⟩

end Go.Proofs.YtaopapjnhlombaaGreat

namespace Go.Proofs.YtaopapjnhlombaaGreat
open Go.RowKit

/-- What is marked at place t from the number k0 on. -/
def stayMark (k0 : Int) (t : Nat) : Stay := ⟨k0 + 4 * t, k0 + 4 * t + 1, k0 + 4 * t + 2, k0 + 4 * t + 3⟩

set_option maxHeartbeats 1600000 in
set_option maxRecDepth 100000 in
theorem markStayS_own (ao : Option Addr) (n c base : Nat) (S : Nat → Stay) (k0 : Int) (w : World) (hn : n ≤ 2097152) (h0 : 0 ≤ k0) (h1 : k0 ≤ 1000000000000000) (ho : w.ownsRow base 124 4 (.slice ao n c) n (stayList S n)) :
    Calls Tryz.prog 79 #[.slice ao n c, .int .i64 k0] w fun e w' => e = .returned (.int .i64 (k0 + 4 * n)) ∧ w'.ownsRow base 124 4 (.slice ao n c) n (stayList (stayMark k0) n) ∧ Kept w w' (fun b => (Value.slice ao n c).ownBlock = some b) := by
  go_enter Tryz.func79, Tryz.ntmps79
  go_wp2
  go_loopw [1, 5] (fun q i wr => ∃ (t : Nat), t ≤ n ∧ i = .int .i64 t ∧ q = .int .i64 (k0 + 4 * t) ∧ wr.ownsRow base 124 4 (.slice ao n c) n ((List.range (n * 4)).map (stayCell (fun i => if i < t then stayMark k0 i else S i))) ∧ Kept w wr (fun b => (Value.slice ao n c).ownBlock = some b)) (fun _ i _ => n - (intOf i).toNat)
  case atStart => exact ⟨0, Nat.zero_le _, rfl, by simp, by simpa [stayList] using ho, Kept.refl _ _⟩
  case round =>
    obtain ⟨t, ht, rfl, rfl, hown, hk⟩ := hrel
    by_cases hlt : t < n
    · obtain ⟨g, rfl, hg1, hg2⟩ := own_addr hown (by omega)
      have hc0 := own_cell hown (t * 4) (by omega) rfl
      have hf0 := hown.frozenAt (t * 4)
      rw [stayCell_0] at hc0
      have hc1 := own_cell hown (t * 4 + 1) (by omega) rfl
      have hf1 := hown.frozenAt (t * 4 + 1)
      rw [stayCell_1] at hc1
      have hc2 := own_cell hown (t * 4 + 2) (by omega) rfl
      have hf2 := hown.frozenAt (t * 4 + 2)
      rw [stayCell_2] at hc2
      have hc3 := own_cell hown (t * 4 + 3) (by omega) rfl
      have hf3 := hown.frozenAt (t * 4 + 3)
      rw [stayCell_3] at hc3
      go_wp2
      go_roundw
      case rel =>
        refine ⟨t + 1, by omega, by go_num, by go_num, own_congr (own_store (own_store (own_store (own_store hown (t * 4) _) (t * 4 + 1) _) (t * 4 + 2) _) (t * 4 + 3) _) (fun j hj => ?_), ((((hk.set (a := ⟨g, t * 4, none⟩) rfl _).set (a := ⟨g, t * 4 + 1, none⟩) rfl _).set (a := ⟨g, t * 4 + 2, none⟩) rfl _).set (a := ⟨g, t * 4 + 3, none⟩) rfl _)⟩
        have key : ∀ (S' : Nat → Stay), (∀ i, i ≠ t → S' i = (if i < t then stayMark k0 i else S i)) → (S' t = stayMark k0 t) → stayCell S' j = stayCell (fun i => if i < t + 1 then stayMark k0 i else S i) j := by
          intro S' h1 h2
          unfold stayCell
          have : S' (j / 4) = (if j / 4 < t + 1 then stayMark k0 (j / 4) else S (j / 4)) := by
            by_cases e : j / 4 = t
            · rw [e, h2, if_pos (by omega)]
            · rw [h1 _ e]
              by_cases e2 : j / 4 < t
              · rw [if_pos e2, if_pos (by omega)]
              · rw [if_neg e2, if_neg (by omega)]
          rw [this]
        rw [← key (fun i => if i = t then stayMark k0 t else if i < t then stayMark k0 i else S i) (fun i h => if_neg h) (if_pos rfl)]
        by_cases h3 : j = t * 4 + 3
        · subst h3; rw [if_pos rfl, stayCell_3, if_pos rfl]; simp [stayMark]; try omega
        rw [if_neg h3]
        by_cases h2 : j = t * 4 + 2
        · subst h2; rw [if_pos rfl, stayCell_2, if_pos rfl]; simp [stayMark]; try omega
        rw [if_neg h2]
        by_cases h1 : j = t * 4 + 1
        · subst h1; rw [if_pos rfl, stayCell_1, if_pos rfl]; simp [stayMark]; try omega
        rw [if_neg h1]
        by_cases h0 : j = t * 4
        · subst h0; rw [if_pos rfl, stayCell_0, if_pos rfl]; simp [stayMark]; try omega
        rw [if_neg h0]
        have hne : j / 4 ≠ t := by omega
        unfold stayCell
        simp only [if_neg hne]
      case measure => simp [intOf]; omega
    · obtain rfl : t = n := by omega
      go_wp2
      go_ret
      refine ⟨rfl, ?_, hk⟩
      rw [stayList_congr (S := stayMark k0) (S' := fun i => if i < t then stayMark k0 i else S i) (fun i hi => (if_pos hi).symm)]
      exact hown

end Go.Proofs.YtaopapjnhlombaaGreat
