/-
  OWN TEXT: SpecOff, SpecFsh, SpecDop, PlainOs, DopN.
-/
import Derived.Deep.DeepCutAuto
import Derived.Test.YtfallpinmhbemaaGreatDoorB18
import Derived.Test.YtfallpinmhbemaaGreatDoorB26
import Derived.Test.YtfallpinmhbemaaGreatDoorB23
import Derived.Test.YtfallpinmhbemaaGreatDoorB16
import Derived.Test.YtfallpinmhbemaaGreatDoorB17
import Derived.Test.YtfallpinmhbemaaGreatDoorB25
import Derived.Test.YtfallpinmhbemaaGreatDoorB05
import Derived.Test.YtfallpinmhbemaaGreatDoorB09
namespace Go.Proofs.YtfallpinmhbemaaGreatDoor
open Go.RowKit

set_option maxHeartbeats 12800000 in
set_option maxRecDepth 100000 in
theorem specOff_raw (x : Off) (asa ald abk : Option Addr) (csa cld cbk : Nat) (w : World) (hs : Off.Short x 1048576) (hsa : SailsAt w asa x.san x.sa) (hld : LoadsAt w ald x.ldn x.ld) (hbk : BooksAt w abk x.bkn x.bk) (hcb : x.bkn ≤ cbk) :
    Calls Tryz.prog 102 #[.agg #[.slice asa x.san csa, .slice ald x.ldn cld, .slice abk x.bkn cbk]] w fun e w' => SaysIf (OffOk x) e ∧ Below w.heap.size w w' := by
  have HSA : Hid (SailsAt w asa x.san x.sa) := hsa
  have HLD : Hid (LoadsAt w ald x.ldn x.ld) := hld
  have HBK : Hid (BooksAt w abk x.bkn x.bk) := hbk
  have HSH : Hid (Off.Short x 1048576) := hs
  have n1 : x.san ≤ 1048576 := hs.1.1
  have n2 : x.ldn ≤ 1048576 := hs.2.1.1
  have n3 : x.bkn ≤ 1048576 := hs.2.2.1
  clear hsa hld hbk hs
  have hb0 : Below w.heap.size w (w.alloc (.cells #[.slice asa x.san csa, .slice ald x.ldn cld, .slice abk x.bkn cbk] 66)) := push (Below.refl _ _) _
  have bO := heap_alloc_new w (.cells #[.slice asa x.san csa, .slice ald x.ldn cld, .slice abk x.bkn cbk] 66)
  go_enter Tryz.func102, Tryz.ntmps102
  go_wp2_with fail
  generalize w.alloc (.cells #[.slice asa x.san csa, .slice ald x.ldn cld, .slice abk x.bkn cbk] 66) = V0 at hb0 bO ⊢
  refine (specTab_any asa x.san csa x.sa _ n1 HSH.out.1.2 (HSA.out.below hb0)).mono ?_
  rintro e V ⟨⟨t0, rfl, ht0⟩, hbv⟩
  have HT0 : Hid (t0 = true ↔ GoodTab x.san x.sa) := ht0
  have bO1 := blk_below bO hbv
  have hb1 := after hb0 hbv
  clear ht0 hb0 bO hbv V0
  have z0 := blk_cell bO1 0 _ rfl
  have z1 := blk_cell bO1 1 _ rfl
  have z2 := blk_cell bO1 2 _ rfl
  cases t0 with
  | false =>
    have HN : Hid (¬ OffOk x) := fun h => by have := HT0.out.2 h.1; cases this
    go_wp2
    go_ret
    exact ⟨says_no HN.out, hb1⟩
  | true =>
  have HTAB : Hid (GoodTab x.san x.sa) := HT0.out.1 rfl
  clear HT0
  by_cases m1 : x.ldn = x.san
  case neg =>
    have e1 : ((x.ldn : Int) != (x.san : Int)) = true := by simp; omega
    have HN : Hid (¬ OffOk x) := fun h => m1 h.2.1
    clear m1
    go_wp2
    go_ret
    exact ⟨says_no HN.out, hb1⟩
  have e1 : ((x.ldn : Int) != (x.san : Int)) = false := by simp; omega
  by_cases m2 : x.bkn ≤ 30
  case neg =>
    have e2 : decide ((30 : Int) < (x.bkn : Int)) = true := by simp; omega
    have HN : Hid (¬ OffOk x) := fun h => m2 h.2.2.1
    clear m1 m2
    go_wp2
    go_ret
    exact ⟨says_no HN.out, hb1⟩
  have e2 : decide ((30 : Int) < (x.bkn : Int)) = false := by simp; omega
  have HM1 : Hid (x.ldn = x.san) := m1
  have HM2 : Hid (x.bkn ≤ 30) := m2
  clear m1
  go_wp2
  clear e1 e2 z0 z1 z2
  go_loopw [3, 4, 5, 37] (fun _ _ _ q wr => ∃ k : Nat, k ≤ x.san ∧ q = .int .i64 k ∧ (∀ j, j < k → LoadOk (x.sa j) (x.ld j)) ∧ Below V.heap.size V wr) (fun _ _ _ q _ => x.san - (intOf q).toNat)
  case atStart => exact ⟨0, Nat.zero_le _, rfl, fun j hj => by omega, Below.refl _ _⟩
  case round =>
    obtain ⟨k, hk, rfl, hall, hbel⟩ := hrel
    have HA : Hid (∀ j, j < k → LoadOk (x.sa j) (x.ld j)) := hall
    clear hall
    have hbw := after hb1 hbel
    by_cases hlt : k < x.san
    · obtain ⟨sb, so, la, lc, ca, cc, rfl, f0, f1, f2, f3, f4, f5, f6, f7, hla, hca, sla, sca⟩ := HSA.out k hlt
      obtain ⟨s, hsd⟩ : ∃ s, s = x.sa k := ⟨_, rfl⟩
      rw [← hsd] at f0 f1 f2 f3 f4 f5 f6 f7 hla hca sla sca
      have HSD : Hid (s = x.sa k) := hsd
      have HSS : Hid (ShortS s 1048576) := by rw [hsd]; exact HSH.out.1.2 k hlt
      have lsb := World.block_lt_of_cell? w _ f0
      have c0 : wr.cell? ⟨sb, so + k * 8, none⟩ = some (.int .i64 s.id) := (hbw.cell (p := ⟨sb, so + k * 8, none⟩) lsb).trans f0
      have c1 : wr.cell? ⟨sb, so + k * 8 + 1, none⟩ = some (.string s.fr) := (hbw.cell (p := ⟨sb, so + k * 8 + 1, none⟩) lsb).trans f1
      have c2 : wr.cell? ⟨sb, so + k * 8 + 2, none⟩ = some (.string s.dst) := (hbw.cell (p := ⟨sb, so + k * 8 + 2, none⟩) lsb).trans f2
      have c3 : wr.cell? ⟨sb, so + k * 8 + 3, none⟩ = some (.int .i64 s.dep) := (hbw.cell (p := ⟨sb, so + k * 8 + 3, none⟩) lsb).trans f3
      have c4 : wr.cell? ⟨sb, so + k * 8 + 4, none⟩ = some (.int .i64 s.arr) := (hbw.cell (p := ⟨sb, so + k * 8 + 4, none⟩) lsb).trans f4
      have c5 : wr.cell? ⟨sb, so + k * 8 + 5, none⟩ = some (.slice la s.la.n lc) := (hbw.cell (p := ⟨sb, so + k * 8 + 5, none⟩) lsb).trans f5
      have c6 : wr.cell? ⟨sb, so + k * 8 + 6, none⟩ = some (.slice ca s.ca.n cc) := (hbw.cell (p := ⟨sb, so + k * 8 + 6, none⟩) lsb).trans f6
      have c7 : wr.cell? ⟨sb, so + k * 8 + 7, none⟩ = some (.int .i64 s.most) := (hbw.cell (p := ⟨sb, so + k * 8 + 7, none⟩) lsb).trans f7
      obtain ⟨C, hC, hI⟩ := HLD.out
      obtain ⟨lb, lo, rfl, hc⟩ := hC k (by have := HM1.out; omega)
      obtain ⟨l, hld⟩ : ∃ l, l = x.ld k := ⟨_, rfl⟩
      obtain ⟨ast, cst, aro, cro, ase, cse, eC, hst, sst, hro, sro, hse, sse⟩ := hI k (by have := HM1.out; omega)
      rw [← hld] at eC hst sst hro sro hse sse
      have HLL : Hid (l = x.ld k) := hld
      have HLS : Hid (Load.Short l 1048576) := by rw [hld]; exact HSH.out.2.1.2 k (by have := HM1.out; omega)
      have llb : lb < w.heap.size := World.block_lt_of_cell? w _ (hc 0 (by decide))
      have d0 : ∀ o, (wr.alloc o).cell? ⟨lb, lo + k * 3, none⟩ = some (.slice ast l.stn cst) := fun o => ((hbw.alloc hbw.size o).cell (p := ⟨lb, lo + k * 3, none⟩) llb).trans (by have := hc 0 (by decide); rw [eC] at this; exact this)
      have d1 : ∀ o, (wr.alloc o).cell? ⟨lb, lo + k * 3 + 1, none⟩ = some (.slice aro l.ron cro) := fun o => ((hbw.alloc hbw.size o).cell (p := ⟨lb, lo + k * 3 + 1, none⟩) llb).trans (by have := hc 1 (by decide); rw [eC] at this; exact this)
      have d2 : ∀ o, (wr.alloc o).cell? ⟨lb, lo + k * 3 + 2, none⟩ = some (.slice ase l.sen cse) := fun o => ((hbw.alloc hbw.size o).cell (p := ⟨lb, lo + k * 3 + 2, none⟩) llb).trans (by have := hc 2 (by decide); rw [eC] at this; exact this)
      have HLA : Hid (PairsAt w la s.la) := hla
      have HCA : Hid (PairsAt w ca s.ca) := hca
      have HST : Hid (StaysAt w ast l.stn l.st) := hst
      have HRO : Hid (RoomsAt w aro l.ron l.ro) := hro
      have HSE : Hid (SeatsAt w ase l.sen l.se) := hse
      have q1 : l.stn ≤ cst := sst.1
      have q2 : l.ron ≤ cro := sro.1
      have q3 : l.sen ≤ cse := sse.1
      clear hC hI hc eC hsd hld f0 f1 f2 f3 f4 f5 f6 f7 hla hca sla sca hst sst hro sro hse sse
      have hk0 : (0 : Int) ≤ (k : Int) := by omega
      have hk1 : (k : Int) < (x.ldn : Int) := by have := HM1.out; omega
      have z1 : ∀ o, (wr.alloc o).cell? ⟨w.heap.size, 1, none⟩ = some (.slice (some ⟨lb, lo, none⟩) x.ldn cld) := fun o => blk_cell (blk_alloc (blk_below bO1 hbel) o) 1 _ rfl
      go_wp2_with fail
      have hbx : Below V.heap.size V ((wr.alloc (.cells #[.int .i64 s.id, .string s.fr, .string s.dst, .int .i64 s.dep, .int .i64 s.arr, .slice la s.la.n lc, .slice ca s.ca.n cc, .int .i64 s.most] 37)).alloc (.cells #[.slice ast l.stn cst, .slice aro l.ron cro, .slice ase l.sen cse] 136)) := (hbel.alloc hbel.size _).alloc (by have := hbel.size; simp; omega) _
      have bS : ((wr.alloc (.cells #[.int .i64 s.id, .string s.fr, .string s.dst, .int .i64 s.dep, .int .i64 s.arr, .slice la s.la.n lc, .slice ca s.ca.n cc, .int .i64 s.most] 37)).alloc (.cells #[.slice ast l.stn cst, .slice aro l.ron cro, .slice ase l.sen cse] 136)).heap[wr.heap.size]? = some (.cells #[.int .i64 s.id, .string s.fr, .string s.dst, .int .i64 s.dep, .int .i64 s.arr, .slice la s.la.n lc, .slice ca s.ca.n cc, .int .i64 s.most] 37 (0, 0)) := blk_alloc (heap_alloc_new wr _) _
      have bL : ((wr.alloc (.cells #[.int .i64 s.id, .string s.fr, .string s.dst, .int .i64 s.dep, .int .i64 s.arr, .slice la s.la.n lc, .slice ca s.ca.n cc, .int .i64 s.most] 37)).alloc (.cells #[.slice ast l.stn cst, .slice aro l.ron cro, .slice ase l.sen cse] 136)).heap[wr.heap.size + 1]? = some (.cells #[.slice ast l.stn cst, .slice aro l.ron cro, .slice ase l.sen cse] 136 (0, 0)) := by simpa using heap_alloc_new (wr.alloc _) _
      generalize ((wr.alloc (.cells #[.int .i64 s.id, .string s.fr, .string s.dst, .int .i64 s.dep, .int .i64 s.arr, .slice la s.la.n lc, .slice ca s.ca.n cc, .int .i64 s.most] 37)).alloc (.cells #[.slice ast l.stn cst, .slice aro l.ron cro, .slice ase l.sen cse] 136)) = X at hbx bS bL ⊢
      clear c0 c1 c2 c3 c4 c5 c6 c7 d0 d1 d2 z1 hbw
      have hbw := after hb1 hbx
      have s6 := blk_cell bS 6 _ rfl
      have s7 := blk_cell bS 7 _ rfl
      have l1 := blk_cell bL 1 _ rfl
      have l2 := blk_cell bL 2 _ rfl
      refine (specDeck_any la ast s.la.n lc l.stn cst s.la l.st _ rfl HSS.out.2.2.1 HLS.out.1 q1 (HLA.out.below hbw) (HST.out.below hbw)).mono ?_
      rintro e X1 ⟨⟨t1, rfl, ht1⟩, hbq⟩
      have HT1 : Hid (t1 = true ↔ DeckS s.la l.stn l.st) := ht1
      clear ht1
      have bS2 := blk_below bS hbq
      have bL2 := blk_below bL hbq
      have hbx2 := after hbx hbq
      clear s6 s7 l1 l2 bS bL hbx hbw hbq
      have bS := bS2
      have bL := bL2
      have hbx := hbx2
      clear bS2 bL2 hbx2
      have hbw := after hb1 hbx
      have s6 := blk_cell bS 6 _ rfl
      have s7 := blk_cell bS 7 _ rfl
      have l1 := blk_cell bL 1 _ rfl
      have l2 := blk_cell bL 2 _ rfl
      cases t1 with
      | false =>
        have HN : Hid (¬ OffOk x) := fun h => by have h := h.2.2.2.1 k hlt; rw [← HSD.out, ← HLL.out] at h; have := HT1.out.2 h.1; cases this
        go_wp2
        go_ret
        exact ⟨says_no HN.out, hbw⟩
      | true =>
      have HP1 : Hid (DeckS s.la l.stn l.st) := HT1.out.1 rfl
      clear HT1
      go_wp2_with fail
      refine (specRooms_any ca aro s.ca.n cc l.ron cro s.ca l.ro _ rfl HSS.out.2.2.2 HLS.out.2.1 q2 (HCA.out.below hbw) (HRO.out.below hbw)).mono ?_
      rintro e X2 ⟨⟨t2, rfl, ht2⟩, hbq⟩
      have HT2 : Hid (t2 = true ↔ RoomsS s.ca l.ron l.ro) := ht2
      clear ht2
      have bS2 := blk_below bS hbq
      have bL2 := blk_below bL hbq
      have hbx2 := after hbx hbq
      clear s6 s7 l1 l2 bS bL hbx hbw hbq
      have bS := bS2
      have bL := bL2
      have hbx := hbx2
      clear bS2 bL2 hbx2
      have hbw := after hb1 hbx
      have s6 := blk_cell bS 6 _ rfl
      have s7 := blk_cell bS 7 _ rfl
      have l1 := blk_cell bL 1 _ rfl
      have l2 := blk_cell bL 2 _ rfl
      cases t2 with
      | false =>
        have HN : Hid (¬ OffOk x) := fun h => by have h := h.2.2.2.1 k hlt; rw [← HSD.out, ← HLL.out] at h; have := HT2.out.2 h.2.1; cases this
        go_wp2
        go_ret
        exact ⟨says_no HN.out, hbw⟩
      | true =>
      have HP2 : Hid (RoomsS s.ca l.ron l.ro) := HT2.out.1 rfl
      clear HT2
      go_wp2_with fail
      refine (specSeats_any s.most ase l.sen cse l.se _ (by have := HLS.out.2.2; omega) q3 (HSE.out.below hbw)).mono ?_
      rintro e X3 ⟨⟨t3, rfl, ht3⟩, hbq⟩
      have HT3 : Hid (t3 = true ↔ SeatsOk s.most l.sen l.se) := ht3
      clear ht3
      have bS2 := blk_below bS hbq
      have bL2 := blk_below bL hbq
      have hbx2 := after hbx hbq
      clear s6 s7 l1 l2 bS bL hbx hbw hbq
      have bS := bS2
      have bL := bL2
      have hbx := hbx2
      clear bS2 bL2 hbx2
      have hbw := after hb1 hbx
      have s6 := blk_cell bS 6 _ rfl
      have s7 := blk_cell bS 7 _ rfl
      have l1 := blk_cell bL 1 _ rfl
      have l2 := blk_cell bL 2 _ rfl
      cases t3 with
      | false =>
        have HN : Hid (¬ OffOk x) := fun h => by have h := h.2.2.2.1 k hlt; rw [← HSD.out, ← HLL.out] at h; have := HT3.out.2 h.2.2; cases this
        go_wp2
        go_ret
        exact ⟨says_no HN.out, hbw⟩
      | true =>
      have HP3 : Hid (SeatsOk s.most l.sen l.se) := HT3.out.1 rfl
      clear HT3
      have HLO : Hid (LoadOk (x.sa k) (x.ld k)) := by show LoadOk (x.sa k) (x.ld k); rw [← HSD.out, ← HLL.out]; exact ⟨HP1.out, HP2.out, HP3.out⟩
      clear s6 s7 l1 l2
      go_wp2
      go_roundw
      case rel => exact ⟨k + 1, by omega, by go_num, fun j hj => by
        by_cases e : j = k
        · subst e; exact HLO.out
        · exact HA.out j (by omega), hbx⟩
      case measure => simp [intOf]; omega
    · obtain rfl : k = x.san := by omega
      have HL1 : Hid (∀ j, j < x.san → LoadOk (x.sa j) (x.ld j)) := HA.out
      have HB1 : Hid (Below V.heap.size V wr) := hbel
      have z2 := blk_cell (blk_below bO1 hbel) 2 _ rfl
      clear HA hbel hbw hk hlt
      go_wp2
      clear z2
      go_loopw [6, 73] (fun _ q wr => ∃ k : Nat, k ≤ x.bkn ∧ q = .int .i64 k ∧ (∀ j, j < k → BookOk x j) ∧ Below V.heap.size V wr) (fun _ q _ => x.bkn - (intOf q).toNat)
      case atStart => exact ⟨0, Nat.zero_le _, rfl, fun j hj => by omega, HB1.out⟩
      case round =>
        obtain ⟨k, hk, rfl, hall, hbel⟩ := hrel
        have HA : Hid (∀ j, j < k → BookOk x j) := hall
        clear hall
        have hbw := after hb1 hbel
        by_cases hlt : k < x.bkn
        · obtain ⟨C, hC, hI⟩ := HBK.out
          obtain ⟨bb, bo, rfl, _⟩ := hC k hlt
          have HCC : Hid (RecsAt wr (some ⟨bb, bo, none⟩) x.bkn 13 C) := hC.below hbw
          have HII : Hid (∀ k, k < x.bkn → Book.Is wr (C k) (x.bk k)) := fun k hk => (hI k hk).below hbw
          have z0 := blk_cell (blk_below bO1 hbel) 0 _ rfl
          have z1 := blk_cell (blk_below bO1 hbel) 1 _ rfl
          have z2 := blk_cell (blk_below bO1 hbel) 2 _ rfl
          clear hC hI
          go_wp2_with fail
          refine (l7Booking_raw x asa ald bb bo csa cld cbk k C _ hlt HSH.out (HSA.out.below hbw) HCC.out HII.out hcb).mono ?_
          rintro e X ⟨⟨t, rfl, ht⟩, hbx⟩
          have HT : Hid (t = true ↔ BookOk x k) := ht
          clear ht z0 z1 z2
          cases t with
          | false =>
            have HN : Hid (¬ OffOk x) := fun h => by have := HT.out.2 (h.2.2.2.2.1 k hlt); cases this
            go_wp2
            go_ret
            exact ⟨says_no HN.out, after hbw hbx⟩
          | true =>
            have HP : Hid (BookOk x k) := HT.out.1 rfl
            clear HT
            go_wp2
            go_roundw
            case rel => exact ⟨k + 1, by omega, by go_num, fun j hj => by
              by_cases e : j = k
              · subst e; exact HP.out
              · exact HA.out j (by omega), after hbel hbx⟩
            case measure => simp [intOf]; omega
        · obtain rfl : k = x.bkn := by omega
          have HL2 : Hid (∀ j, j < x.bkn → BookOk x j) := HA.out
          have HB2 : Hid (Below V.heap.size V wr) := hbel
          have z0 := blk_cell (blk_below bO1 hbel) 0 _ rfl
          clear HA hbel hbw hk hlt HB1
          go_wp2
          clear z0
          go_loopw [7, 8, 9, 10, 11, 12, 14, 84, 95, 96, 97] (fun _ _ _ _ _ _ _ q _ _ _ wr => ∃ k : Nat, k ≤ x.san ∧ q = .int .i64 k ∧ (∀ j, j < k → Tallies x j) ∧ Below V.heap.size V wr) (fun _ _ _ _ _ _ _ q _ _ _ _ => x.san - (intOf q).toNat)
          case atStart => exact ⟨0, Nat.zero_le _, rfl, fun j hj => by omega, HB2.out⟩
          case round =>
            obtain ⟨k, hk, rfl, hall, hbel⟩ := hrel
            have HA : Hid (∀ j, j < k → Tallies x j) := hall
            clear hall
            have hbw := after hb1 hbel
            by_cases hlt : k < x.san
            · obtain ⟨sb, so, la, lc, ca, cc, rfl, f0, f1, f2, f3, f4, f5, f6, f7, hla, hca, sla, sca⟩ := HSA.out k hlt
              obtain ⟨s, hsd⟩ : ∃ s, s = x.sa k := ⟨_, rfl⟩
              rw [← hsd] at f0 f1 f2 f3 f4 f5 f6 f7 hla hca sla sca
              have HSD : Hid (s = x.sa k) := hsd
              have HSS : Hid (ShortS s 1048576) := by rw [hsd]; exact HSH.out.1.2 k hlt
              have lsb := World.block_lt_of_cell? w _ f0
              have c0 : wr.cell? ⟨sb, so + k * 8, none⟩ = some (.int .i64 s.id) := (hbw.cell (p := ⟨sb, so + k * 8, none⟩) lsb).trans f0
              have c1 : wr.cell? ⟨sb, so + k * 8 + 1, none⟩ = some (.string s.fr) := (hbw.cell (p := ⟨sb, so + k * 8 + 1, none⟩) lsb).trans f1
              have c2 : wr.cell? ⟨sb, so + k * 8 + 2, none⟩ = some (.string s.dst) := (hbw.cell (p := ⟨sb, so + k * 8 + 2, none⟩) lsb).trans f2
              have c3 : wr.cell? ⟨sb, so + k * 8 + 3, none⟩ = some (.int .i64 s.dep) := (hbw.cell (p := ⟨sb, so + k * 8 + 3, none⟩) lsb).trans f3
              have c4 : wr.cell? ⟨sb, so + k * 8 + 4, none⟩ = some (.int .i64 s.arr) := (hbw.cell (p := ⟨sb, so + k * 8 + 4, none⟩) lsb).trans f4
              have c5 : wr.cell? ⟨sb, so + k * 8 + 5, none⟩ = some (.slice la s.la.n lc) := (hbw.cell (p := ⟨sb, so + k * 8 + 5, none⟩) lsb).trans f5
              have c6 : wr.cell? ⟨sb, so + k * 8 + 6, none⟩ = some (.slice ca s.ca.n cc) := (hbw.cell (p := ⟨sb, so + k * 8 + 6, none⟩) lsb).trans f6
              have c7 : wr.cell? ⟨sb, so + k * 8 + 7, none⟩ = some (.int .i64 s.most) := (hbw.cell (p := ⟨sb, so + k * 8 + 7, none⟩) lsb).trans f7
              obtain ⟨C, hC, hI⟩ := HLD.out
              obtain ⟨lb, lo, rfl, hc⟩ := hC k (by have := HM1.out; omega)
              obtain ⟨l, hld⟩ : ∃ l, l = x.ld k := ⟨_, rfl⟩
              obtain ⟨ast, cst, aro, cro, ase, cse, eC, hst, sst, hro, sro, hse, sse⟩ := hI k (by have := HM1.out; omega)
              rw [← hld] at eC hst sst hro sro hse sse
              have HLL : Hid (l = x.ld k) := hld
              have HLS : Hid (Load.Short l 1048576) := by rw [hld]; exact HSH.out.2.1.2 k (by have := HM1.out; omega)
              have llb : lb < w.heap.size := World.block_lt_of_cell? w _ (hc 0 (by decide))
              have d0 : ∀ o, (wr.alloc o).cell? ⟨lb, lo + k * 3, none⟩ = some (.slice ast l.stn cst) := fun o => ((hbw.alloc hbw.size o).cell (p := ⟨lb, lo + k * 3, none⟩) llb).trans (by have := hc 0 (by decide); rw [eC] at this; exact this)
              have d1 : ∀ o, (wr.alloc o).cell? ⟨lb, lo + k * 3 + 1, none⟩ = some (.slice aro l.ron cro) := fun o => ((hbw.alloc hbw.size o).cell (p := ⟨lb, lo + k * 3 + 1, none⟩) llb).trans (by have := hc 1 (by decide); rw [eC] at this; exact this)
              have d2 : ∀ o, (wr.alloc o).cell? ⟨lb, lo + k * 3 + 2, none⟩ = some (.slice ase l.sen cse) := fun o => ((hbw.alloc hbw.size o).cell (p := ⟨lb, lo + k * 3 + 2, none⟩) llb).trans (by have := hc 2 (by decide); rw [eC] at this; exact this)
              have HLA : Hid (PairsAt w la s.la) := hla
              have HCA : Hid (PairsAt w ca s.ca) := hca
              have HST : Hid (StaysAt w ast l.stn l.st) := hst
              have HRO : Hid (RoomsAt w aro l.ron l.ro) := hro
              have HSE : Hid (SeatsAt w ase l.sen l.se) := hse
              have q1 : l.stn ≤ cst := sst.1
              have q2 : l.ron ≤ cro := sro.1
              have q3 : l.sen ≤ cse := sse.1
              clear hC hI hc eC hsd hld f0 f1 f2 f3 f4 f5 f6 f7 hla hca sla sca hst sst hro sro hse sse
              have HLO := HL1.out k hlt
              rw [← HSD.out, ← HLL.out] at HLO
              have HCB : Hid (∀ j, j < l.ron → 0 ≤ (l.ro j).cab ∧ (l.ro j).cab < s.ca.n) := fun j hj => rooms_cab HLO.2.1 j hj
              clear HLO
              have hk0 : (0 : Int) ≤ (k : Int) := by omega
              have hk1 : (k : Int) < (x.ldn : Int) := by have := HM1.out; omega
              have z1 : ∀ o, (wr.alloc o).cell? ⟨w.heap.size, 1, none⟩ = some (.slice (some ⟨lb, lo, none⟩) x.ldn cld) := fun o => blk_cell (blk_alloc (blk_below bO1 hbel) o) 1 _ rfl
              have z2 : ∀ o p, ((wr.alloc o).alloc p).cell? ⟨w.heap.size, 2, none⟩ = some (.slice abk x.bkn cbk) := fun o p => blk_cell (blk_alloc (blk_alloc (blk_below bO1 hbel) o) p) 2 _ rfl
              go_wp2
              have hbx : Below V.heap.size V ((wr.alloc (.cells #[.int .i64 s.id, .string s.fr, .string s.dst, .int .i64 s.dep, .int .i64 s.arr, .slice la s.la.n lc, .slice ca s.ca.n cc, .int .i64 s.most] 37)).alloc (.cells #[.slice ast l.stn cst, .slice aro l.ron cro, .slice ase l.sen cse] 136)) := (hbel.alloc hbel.size _).alloc (by have := hbel.size; simp; omega) _
              have bS : ((wr.alloc (.cells #[.int .i64 s.id, .string s.fr, .string s.dst, .int .i64 s.dep, .int .i64 s.arr, .slice la s.la.n lc, .slice ca s.ca.n cc, .int .i64 s.most] 37)).alloc (.cells #[.slice ast l.stn cst, .slice aro l.ron cro, .slice ase l.sen cse] 136)).heap[wr.heap.size]? = some (.cells #[.int .i64 s.id, .string s.fr, .string s.dst, .int .i64 s.dep, .int .i64 s.arr, .slice la s.la.n lc, .slice ca s.ca.n cc, .int .i64 s.most] 37 (0, 0)) := blk_alloc (heap_alloc_new wr _) _
              have bL : ((wr.alloc (.cells #[.int .i64 s.id, .string s.fr, .string s.dst, .int .i64 s.dep, .int .i64 s.arr, .slice la s.la.n lc, .slice ca s.ca.n cc, .int .i64 s.most] 37)).alloc (.cells #[.slice ast l.stn cst, .slice aro l.ron cro, .slice ase l.sen cse] 136)).heap[wr.heap.size + 1]? = some (.cells #[.slice ast l.stn cst, .slice aro l.ron cro, .slice ase l.sen cse] 136 (0, 0)) := by simpa using heap_alloc_new (wr.alloc _) _
              generalize ((wr.alloc (.cells #[.int .i64 s.id, .string s.fr, .string s.dst, .int .i64 s.dep, .int .i64 s.arr, .slice la s.la.n lc, .slice ca s.ca.n cc, .int .i64 s.most] 37)).alloc (.cells #[.slice ast l.stn cst, .slice aro l.ron cro, .slice ase l.sen cse] 136)) = X at hbx bS bL ⊢
              generalize wr.heap.size = sbx at bS bL ⊢
              clear c0 c1 c2 c3 c4 c5 c6 c7 d0 d1 d2 z1 z2 hbw hbel
              go_loopw [10, 11, 12, 14, 97] (fun v10 v11 v12 _ q wq => ∃ (i : Nat), i ≤ x.bkn ∧ q = .int .i64 i ∧ v10 = .int .i64 (cnt (fun i => On x k i ∧ 0 < (x.bk i).len) i : Nat) ∧ v11 = .int .i64 (cnt (fun i => On x k i ∧ 0 < (x.bk i).cl) i : Nat) ∧ v12 = .int .i64 (cnt (On x k) i : Nat) ∧ (∀ j, j < i → On x k j → StandsB s l (x.bk j)) ∧ Below X.heap.size X wq) (fun _ _ _ _ q _ => x.bkn - (intOf q).toNat)
              case atStart => exact ⟨0, Nat.zero_le _, rfl, rfl, rfl, rfl, fun j hj => by omega, Below.refl _ _⟩
              case round =>
                obtain ⟨i, hi, rfl, rfl, rfl, rfl, hall, hbel⟩ := hrel
                have HW : Hid (∀ j, j < i → On x k j → StandsB s l (x.bk j)) := hall
                clear hall
                have hbw := after (after hb1 hbx) hbel
                obtain ⟨m0, hm0⟩ : ∃ m, m = cnt (fun i => On x k i ∧ 0 < (x.bk i).len) i := ⟨_, rfl⟩
                have hml0 : m0 ≤ i := by rw [hm0]; exact cnt_le _ _
                have HM0 : Hid (m0 = cnt (fun i => On x k i ∧ 0 < (x.bk i).len) i) := hm0
                rw [← hm0]
                clear hm0
                obtain ⟨m1, hm1⟩ : ∃ m, m = cnt (fun i => On x k i ∧ 0 < (x.bk i).cl) i := ⟨_, rfl⟩
                have hml1 : m1 ≤ i := by rw [hm1]; exact cnt_le _ _
                have HM1 : Hid (m1 = cnt (fun i => On x k i ∧ 0 < (x.bk i).cl) i) := hm1
                rw [← hm1]
                clear hm1
                obtain ⟨m2, hm2⟩ : ∃ m, m = cnt (On x k) i := ⟨_, rfl⟩
                have hml2 : m2 ≤ i := by rw [hm2]; exact cnt_le _ _
                have HM2 : Hid (m2 = cnt (On x k) i) := hm2
                rw [← hm2]
                clear hm2
                by_cases hlt2 : i < x.bkn
                · obtain ⟨C, hC, hI⟩ := HBK.out
                  obtain ⟨bb, bo, rfl, hc⟩ := hC i hlt2
                  obtain ⟨alg, clg, eC, hlg, slg⟩ := hI i hlt2
                  obtain ⟨b, hb⟩ : ∃ b, b = x.bk i := ⟨_, rfl⟩
                  rw [← hb] at eC hlg slg
                  have HBB : Hid (b = x.bk i) := hb
                  have HLG : Hid (IntsAt w alg b.lgn b.lg) := hlg
                  have HBS : Hid (Book.Short b 1048576) := by rw [hb]; exact HSH.out.2.2.2 i hlt2
                  have lbb : bb < w.heap.size := World.block_lt_of_cell? w _ (hc 0 (by decide))
                  have c0 : wr.cell? ⟨bb, bo + i * 13, none⟩ = some (.int .i64 b.name) := (hbw.cell (p := ⟨bb, bo + i * 13, none⟩) lbb).trans (by have := hc 0 (by decide); rw [eC] at this; exact this)
                  have c1 : wr.cell? ⟨bb, bo + i * 13 + 1, none⟩ = some (.int .i64 b.who) := (hbw.cell (p := ⟨bb, bo + i * 13 + 1, none⟩) lbb).trans (by have := hc 1 (by decide); rw [eC] at this; exact this)
                  have c2 : wr.cell? ⟨bb, bo + i * 13 + 2, none⟩ = some (.string b.own) := (hbw.cell (p := ⟨bb, bo + i * 13 + 2, none⟩) lbb).trans (by have := hc 2 (by decide); rw [eC] at this; exact this)
                  have c3 : wr.cell? ⟨bb, bo + i * 13 + 3, none⟩ = some (.slice alg b.lgn clg) := (hbw.cell (p := ⟨bb, bo + i * 13 + 3, none⟩) lbb).trans (by have := hc 3 (by decide); rw [eC] at this; exact this)
                  have c4 : wr.cell? ⟨bb, bo + i * 13 + 4, none⟩ = some (.int .i64 b.pe) := (hbw.cell (p := ⟨bb, bo + i * 13 + 4, none⟩) lbb).trans (by have := hc 4 (by decide); rw [eC] at this; exact this)
                  have c5 : wr.cell? ⟨bb, bo + i * 13 + 5, none⟩ = some (.int .i64 b.len) := (hbw.cell (p := ⟨bb, bo + i * 13 + 5, none⟩) lbb).trans (by have := hc 5 (by decide); rw [eC] at this; exact this)
                  have c6 : wr.cell? ⟨bb, bo + i * 13 + 6, none⟩ = some (.int .i64 b.hei) := (hbw.cell (p := ⟨bb, bo + i * 13 + 6, none⟩) lbb).trans (by have := hc 6 (by decide); rw [eC] at this; exact this)
                  have c7 : wr.cell? ⟨bb, bo + i * 13 + 7, none⟩ = some (.int .i64 b.cl) := (hbw.cell (p := ⟨bb, bo + i * 13 + 7, none⟩) lbb).trans (by have := hc 7 (by decide); rw [eC] at this; exact this)
                  have c8 : wr.cell? ⟨bb, bo + i * 13 + 8, none⟩ = some (.bool b.all) := (hbw.cell (p := ⟨bb, bo + i * 13 + 8, none⟩) lbb).trans (by have := hc 8 (by decide); rw [eC] at this; exact this)
                  have c9 : wr.cell? ⟨bb, bo + i * 13 + 9, none⟩ = some (.int .i64 b.be) := (hbw.cell (p := ⟨bb, bo + i * 13 + 9, none⟩) lbb).trans (by have := hc 9 (by decide); rw [eC] at this; exact this)
                  have c10 : wr.cell? ⟨bb, bo + i * 13 + 10, none⟩ = some (.int .i64 b.state) := (hbw.cell (p := ⟨bb, bo + i * 13 + 10, none⟩) lbb).trans (by have := hc 10 (by decide); rw [eC] at this; exact this)
                  have c11 : wr.cell? ⟨bb, bo + i * 13 + 11, none⟩ = some (.int .i64 b.unt) := (hbw.cell (p := ⟨bb, bo + i * 13 + 11, none⟩) lbb).trans (by have := hc 11 (by decide); rw [eC] at this; exact this)
                  have c12 : wr.cell? ⟨bb, bo + i * 13 + 12, none⟩ = some (.int .i64 b.price) := (hbw.cell (p := ⟨bb, bo + i * 13 + 12, none⟩) lbb).trans (by have := hc 12 (by decide); rw [eC] at this; exact this)
                  clear hC hI hc eC hb hlg slg
                  go_wp2_with fail
                  have bB := heap_alloc_new wr (.cells #[.int .i64 b.name, .int .i64 b.who, .string b.own, .slice alg b.lgn clg, .int .i64 b.pe, .int .i64 b.len, .int .i64 b.hei, .int .i64 b.cl, .bool b.all, .int .i64 b.be, .int .i64 b.state, .int .i64 b.unt, .int .i64 b.price] 131)
                  have hbq : Below X.heap.size X (wr.alloc (.cells #[.int .i64 b.name, .int .i64 b.who, .string b.own, .slice alg b.lgn clg, .int .i64 b.pe, .int .i64 b.len, .int .i64 b.hei, .int .i64 b.cl, .bool b.all, .int .i64 b.be, .int .i64 b.state, .int .i64 b.unt, .int .i64 b.price] 131)) := push hbel _
                  generalize wr.alloc (.cells #[.int .i64 b.name, .int .i64 b.who, .string b.own, .slice alg b.lgn clg, .int .i64 b.pe, .int .i64 b.len, .int .i64 b.hei, .int .i64 b.cl, .bool b.all, .int .i64 b.be, .int .i64 b.state, .int .i64 b.unt, .int .i64 b.price] 131) = Y at bB hbq ⊢
                  generalize wr.heap.size = bbx at bB ⊢
                  clear c0 c1 c2 c3 c4 c5 c6 c7 c8 c9 c10 c11 c12 hbel hbw
                  refine (l7Live_any b alg clg _).mono ?_
                  rintro e Y1 ⟨rfl, hby⟩
                  have bB1 := blk_below bB hby
                  have hbq1 := after hbq hby
                  clear bB hbq hby
                  obtain ⟨t1, ht1⟩ : ∃ t, t = decide (Live b) := ⟨_, rfl⟩
                  rw [← ht1]
                  have HT1 : Hid (t1 = true ↔ Live b) := by show t1 = true ↔ Live b; rw [ht1, decide_eq_true_eq]
                  clear ht1
                  cases t1 with
                  | false =>
                    have HN : Hid (¬ On x k i) := fun h => by unfold On at h; rw [← HBB.out, ← HSD.out] at h; have := HT1.out.2 h.1; cases this
                    go_wp2
                    go_roundw
                    case rel => exact ⟨i + 1, by omega, by go_num, by rw [cnt_no (fun h => HN.out h.1), ← HM0.out], by rw [cnt_no (fun h => HN.out h.1), ← HM1.out], by rw [cnt_no HN.out, ← HM2.out], fun j hj ho => by
                      by_cases e : j = i
                      · subst e; exact absurd ho HN.out
                      · exact HW.out j (by omega) ho, hbq1⟩
                    case measure => simp [intOf]; omega
                  | true =>
                    have HLV : Hid (Live b) := HT1.out.1 rfl
                    clear HT1
                    have y3 := blk_cell bB1 3 _ rfl
                    have s0 := blk_cell (blk_below bS hbq1) 0 _ rfl
                    go_wp2_with fail
                    refine (l1Has_any alg b.lgn clg b.lg s.id _ HBS.out.2 (HLG.out.below (after (after hb1 hbx) hbq1))).mono ?_
                    rintro e Y2 ⟨⟨t2, rfl, ht2⟩, hw2⟩
                    have hw2 := hw2.symm
                    subst hw2
                    have HT2 : Hid (t2 = true ↔ HasLeg b s.id) := ht2
                    clear ht2 y3 s0
                    cases t2 with
                    | false =>
                      have HN : Hid (¬ On x k i) := fun h => by unfold On at h; rw [← HBB.out, ← HSD.out] at h; have := HT2.out.2 h.2; cases this
                      go_wp2
                      go_roundw
                      case rel => exact ⟨i + 1, by omega, by go_num, by rw [cnt_no (fun h => HN.out h.1), ← HM0.out], by rw [cnt_no (fun h => HN.out h.1), ← HM1.out], by rw [cnt_no HN.out, ← HM2.out], fun j hj ho => by
                        by_cases e : j = i
                        · subst e; exact absurd ho HN.out
                        · exact HW.out j (by omega) ho, hbq1⟩
                      case measure => simp [intOf]; omega
                    | true =>
                      have HON : Hid (On x k i) := by show On x k i; unfold On; rw [← HBB.out, ← HSD.out]; exact ⟨HLV.out, HT2.out.1 rfl⟩
                      clear HT2 HLV
                      have y0 := blk_cell bB1 0 _ rfl
                      have y1 := blk_cell bB1 1 _ rfl
                      have y2 := blk_cell bB1 2 _ rfl
                      have y3 := blk_cell bB1 3 _ rfl
                      have y4 := blk_cell bB1 4 _ rfl
                      have y5 := blk_cell bB1 5 _ rfl
                      have y6 := blk_cell bB1 6 _ rfl
                      have y7 := blk_cell bB1 7 _ rfl
                      have y8 := blk_cell bB1 8 _ rfl
                      have y9 := blk_cell bB1 9 _ rfl
                      have y10 := blk_cell bB1 10 _ rfl
                      have y11 := blk_cell bB1 11 _ rfl
                      have y12 := blk_cell bB1 12 _ rfl
                      have s0 := blk_cell (blk_below bS hbq1) 0 _ rfl
                      have s1 := blk_cell (blk_below bS hbq1) 1 _ rfl
                      have s2 := blk_cell (blk_below bS hbq1) 2 _ rfl
                      have s3 := blk_cell (blk_below bS hbq1) 3 _ rfl
                      have s4 := blk_cell (blk_below bS hbq1) 4 _ rfl
                      have s5 := blk_cell (blk_below bS hbq1) 5 _ rfl
                      have s6 := blk_cell (blk_below bS hbq1) 6 _ rfl
                      have s7 := blk_cell (blk_below bS hbq1) 7 _ rfl
                      have l0 := blk_cell (blk_below bL hbq1) 0 _ rfl
                      have l1 := blk_cell (blk_below bL hbq1) 1 _ rfl
                      have l2 := blk_cell (blk_below bL hbq1) 2 _ rfl
                      have hbz := after (after hb1 hbx) hbq1
                      go_wp2_with fail
                      refine (l7Stands_any s la ca lc cc l ast aro ase cst cro cse b alg clg _ HLS.out.1 HLS.out.2.1 HLS.out.2.2 (HCA.out.below hbz) (HST.out.below hbz) (HRO.out.below hbz) (HSE.out.below hbz) HCB.out).mono ?_
                      rintro e Y3 ⟨⟨t3, rfl, ht3⟩, hby⟩
                      have HT3 : Hid (t3 = true ↔ StandsB s l b) := ht3
                      have bB2 := blk_below bB1 hby
                      have hbq2 := after hbq1 hby
                      clear ht3 y0 y1 y2 y3 y4 y5 y6 y7 y8 y9 y10 y11 y12 s0 s1 s2 s3 s4 s5 s6 s7 l0 l1 l2 bB1 hbq1 hby hbz
                      cases t3 with
                      | false =>
                        have HN : Hid (¬ OffOk x) := fun h => by have h := (h.2.2.2.2.2 k hlt).1 i hlt2 HON.out; rw [← HBB.out, ← HSD.out, ← HLL.out] at h; have := HT3.out.2 h; cases this
                        go_wp2
                        go_ret
                        exact ⟨says_no HN.out, after (after hb1 hbx) hbq2⟩
                      | true =>
                        have HST3 : Hid (StandsB s l (x.bk i)) := by show StandsB s l (x.bk i); rw [← HBB.out]; exact HT3.out.1 rfl
                        clear HT3
                        have y5 := blk_cell bB2 5 _ rfl
                        have y7 := blk_cell bB2 7 _ rfl
                        have hwm0 : IntKind.i64.wrap ((m0 : Int) + 1) = (m0 : Int) + 1 := by rw [IntKind.wrap_i64]; omega
                        have hwm1 : IntKind.i64.wrap ((m1 : Int) + 1) = (m1 : Int) + 1 := by rw [IntKind.wrap_i64]; omega
                        have hwm2 : IntKind.i64.wrap ((m2 : Int) + 1) = (m2 : Int) + 1 := by rw [IntKind.wrap_i64]; omega
                        by_cases u1 : 0 < b.len
                        · have u1' : decide (0 < b.len) = true := decide_eq_true u1
                          have HU1 : Hid (0 < b.len) := u1
                          clear u1
                          by_cases u2 : 0 < b.cl
                          · have u2' : decide (0 < b.cl) = true := decide_eq_true u2
                            have HU2 : Hid (0 < b.cl) := u2
                            clear u2
                            go_wp2
                            go_roundw
                            case rel => exact ⟨i + 1, by omega, by go_num, by rw [cnt_yes ⟨HON.out, by rw [← HBB.out]; exact HU1.out⟩, ← HM0.out]; simp, by rw [cnt_yes ⟨HON.out, by rw [← HBB.out]; exact HU2.out⟩, ← HM1.out]; simp, by rw [cnt_yes HON.out, ← HM2.out]; simp, fun j hj ho => by
                              by_cases e : j = i
                              · subst e; exact HST3.out
                              · exact HW.out j (by omega) ho, hbq2⟩
                            case measure => simp [intOf]; omega
                          · have u2' : decide (0 < b.cl) = false := decide_eq_false u2
                            have HU2 : Hid (¬ 0 < b.cl) := u2
                            clear u2
                            go_wp2
                            go_roundw
                            case rel => exact ⟨i + 1, by omega, by go_num, by rw [cnt_yes ⟨HON.out, by rw [← HBB.out]; exact HU1.out⟩, ← HM0.out]; simp, by rw [cnt_no (fun h => by have h1 := h.2; rw [← HBB.out] at h1; have h2 := HU2.out; omega), ← HM1.out], by rw [cnt_yes HON.out, ← HM2.out]; simp, fun j hj ho => by
                              by_cases e : j = i
                              · subst e; exact HST3.out
                              · exact HW.out j (by omega) ho, hbq2⟩
                            case measure => simp [intOf]; omega
                        · have u1' : decide (0 < b.len) = false := decide_eq_false u1
                          have HU1 : Hid (¬ 0 < b.len) := u1
                          clear u1
                          by_cases u2 : 0 < b.cl
                          · have u2' : decide (0 < b.cl) = true := decide_eq_true u2
                            have HU2 : Hid (0 < b.cl) := u2
                            clear u2
                            go_wp2
                            go_roundw
                            case rel => exact ⟨i + 1, by omega, by go_num, by rw [cnt_no (fun h => by have h1 := h.2; rw [← HBB.out] at h1; have h2 := HU1.out; omega), ← HM0.out], by rw [cnt_yes ⟨HON.out, by rw [← HBB.out]; exact HU2.out⟩, ← HM1.out]; simp, by rw [cnt_yes HON.out, ← HM2.out]; simp, fun j hj ho => by
                              by_cases e : j = i
                              · subst e; exact HST3.out
                              · exact HW.out j (by omega) ho, hbq2⟩
                            case measure => simp [intOf]; omega
                          · have u2' : decide (0 < b.cl) = false := decide_eq_false u2
                            have HU2 : Hid (¬ 0 < b.cl) := u2
                            clear u2
                            go_wp2
                            go_roundw
                            case rel => exact ⟨i + 1, by omega, by go_num, by rw [cnt_no (fun h => by have h1 := h.2; rw [← HBB.out] at h1; have h2 := HU1.out; omega), ← HM0.out], by rw [cnt_no (fun h => by have h1 := h.2; rw [← HBB.out] at h1; have h2 := HU2.out; omega), ← HM1.out], by rw [cnt_yes HON.out, ← HM2.out]; simp, fun j hj ho => by
                              by_cases e : j = i
                              · subst e; exact HST3.out
                              · exact HW.out j (by omega) ho, hbq2⟩
                            case measure => simp [intOf]; omega
                · obtain rfl : i = x.bkn := by omega
                  have l0 := blk_cell (blk_below bL hbel) 0 _ rfl
                  have l1 := blk_cell (blk_below bL hbel) 1 _ rfl
                  have l2 := blk_cell (blk_below bL hbel) 2 _ rfl
                  have HTL : Hid (Tallies x k ↔ l.stn = m0 ∧ l.ron = m1 ∧ l.sen = m2) := by
                    show Tallies x k ↔ l.stn = m0 ∧ l.ron = m1 ∧ l.sen = m2
                    unfold Tallies
                    rw [← HSD.out, ← HLL.out, HM0.out, HM1.out, HM2.out]
                    exact ⟨fun h => h.2, fun h => ⟨HW.out, h⟩⟩
                  have HBQ : Hid (Below V.heap.size V wr) := after hbx hbel
                  clear hbel HM0 HM1 HM2 HW
                  by_cases v1 : l.stn = m0
                  case neg =>
                    have e1 : ((l.stn : Int) != (m0 : Int)) = true := by simp; omega
                    have HN : Hid (¬ OffOk x) := fun h => v1 (HTL.out.1 (h.2.2.2.2.2 k hlt)).1
                    clear v1
                    go_wp2
                    go_ret
                    exact ⟨says_no HN.out, after hb1 HBQ.out⟩
                  have e1 : ((l.stn : Int) != (m0 : Int)) = false := by simp; omega
                  by_cases v2 : l.ron = m1
                  case neg =>
                    have e2 : ((l.ron : Int) != (m1 : Int)) = true := by simp; omega
                    have HN : Hid (¬ OffOk x) := fun h => v2 (HTL.out.1 (h.2.2.2.2.2 k hlt)).2.1
                    clear v1 v2
                    go_wp2
                    go_ret
                    exact ⟨says_no HN.out, after hb1 HBQ.out⟩
                  have e2 : ((l.ron : Int) != (m1 : Int)) = false := by simp; omega
                  by_cases v3 : l.sen = m2
                  case neg =>
                    have e3 : ((l.sen : Int) != (m2 : Int)) = true := by simp; omega
                    have HN : Hid (¬ OffOk x) := fun h => v3 (HTL.out.1 (h.2.2.2.2.2 k hlt)).2.2
                    clear v1 v2 v3
                    go_wp2
                    go_ret
                    exact ⟨says_no HN.out, after hb1 HBQ.out⟩
                  have e3 : ((l.sen : Int) != (m2 : Int)) = false := by simp; omega
                  have HTY : Hid (Tallies x k) := HTL.out.2 ⟨v1, v2, v3⟩
                  clear v1 v2 v3 HTL
                  go_wp2
                  go_roundw
                  case rel => exact ⟨k + 1, by omega, by go_num, fun j hj => by
                    by_cases e : j = k
                    · subst e; exact HTY.out
                    · exact HA.out j (by omega), HBQ.out⟩
                  case measure => simp [intOf]; omega
            · obtain rfl : k = x.san := by omega
              have HY : Hid (OffOk x) := ⟨HTAB.out, HM1.out, HM2.out, HL1.out, HL2.out, HA.out⟩
              clear HA
              go_wp2
              go_ret
              exact ⟨says_yes HY.out, hbw⟩

open Classical in
noncomputable instance (x : Off) : Decidable (OffOk x) := propDecidable _
theorem says_decide {P : Prop} [Decidable P] {e : Ending} (h : SaysIf P e) : e = .returned (.bool (decide P)) := by
  obtain ⟨b, rfl, hb⟩ := h
  congr 2
  rw [Bool.eq_iff_iff, hb, decide_eq_true_eq]
theorem specOffice_any (cs : List Value) (x : Off) (w : World) (hs : Off.Short x 1048576) (h : Off.Is w cs x) :
    Calls Tryz.prog 102 #[.agg cs.toArray] w fun e w' => e = .returned (.bool (decide (OffOk x))) ∧ Below w.heap.size w w' := by
  obtain ⟨asa, csa, ald, cld, abk, cbk, rfl, h1, s1, h2, s2, h3, s3⟩ := h
  exact (specOff_raw x asa ald abk csa cld cbk w hs h1 h2 h3 s3.1).mono fun _ _ ⟨a, b⟩ => ⟨says_decide a, b⟩

end Go.Proofs.YtfallpinmhbemaaGreatDoor

namespace Go.Proofs.YtfallpinmhbemaaGreatDoor
open Go.RowKit

/-- A by is none of a booking's. -/
def FreshB (n : Nat) (S : Nat → Book) (bys : Int) : Prop := In bys 1 9999 ∧ ∀ i, i < n → (S i).who ≠ bys

set_option maxHeartbeats 6400000 in
set_option maxRecDepth 100000 in
theorem l7Fresh_any (asa ald abk : Option Addr) (N M R csa cld cbk : Nat) (x : Off) (bys : Int) (w : World) (hR : R ≤ 1048576) (hbk : BooksAt w abk R x.bk) :
    Calls Tryz.prog 103 #[.agg #[.slice asa N csa, .slice ald M cld, .slice abk R cbk], .int .i64 bys] w fun e w' => SaysIf (FreshB R x.bk bys) e ∧ Below w.heap.size w w' := by
  have HBK : Hid (BooksAt w abk R x.bk) := hbk
  clear hbk
  have hb0 : Below w.heap.size w (w.alloc (.cells #[.slice asa N csa, .slice ald M cld, .slice abk R cbk] 66)) := push (Below.refl _ _) _
  go_enter Tryz.func103, Tryz.ntmps103
  go_wp2
  go_loopw [6, 10] (fun _ i wr => ∃ t : Nat, t ≤ R ∧ i = .int .i64 t ∧ Hid (∀ j, j < t → (x.bk j).who ≠ bys) ∧ Below w.heap.size w wr) (fun _ i _ => R - (intOf i).toNat)
  case atStart => exact ⟨0, Nat.zero_le _, rfl, (fun j hj => by omega), hb0⟩
  case round =>
    obtain ⟨t, ht, rfl, HA, hbel⟩ := hrel
    by_cases hlt : t < R
    · obtain ⟨Cc, hrc, his⟩ := HBK.out
      obtain ⟨gb, off, rfl, hc⟩ := hrc t hlt
      obtain ⟨blg, blc, hCt, g1, s1⟩ := his t hlt
      obtain ⟨b, hbd⟩ : ∃ b, b = x.bk t := ⟨_, rfl⟩
      rw [← hbd] at hCt
      have HBD : Hid (x.bk t = b) := hbd.symm
      rw [hCt] at hc
      have hgb := World.block_lt_of_cell? w _ (hc 0 (by decide))
      have i0 : (0 : Int) ≤ (t : Int) := by omega
      have i1 : (t : Int) < (R : Int) := by omega
      have c0 : wr.cell? ⟨gb, off + t * 13, none⟩ = some (.int .i64 b.name) := (hbel.cell (p := ⟨gb, off + t * 13, none⟩) hgb).trans (hc 0 (by decide))
      have c1 : wr.cell? ⟨gb, off + t * 13 + 1, none⟩ = some (.int .i64 b.who) := (hbel.cell (p := ⟨gb, off + t * 13 + 1, none⟩) hgb).trans (hc 1 (by decide))
      have c2 : wr.cell? ⟨gb, off + t * 13 + 2, none⟩ = some (.string b.own) := (hbel.cell (p := ⟨gb, off + t * 13 + 2, none⟩) hgb).trans (hc 2 (by decide))
      have c3 : wr.cell? ⟨gb, off + t * 13 + 3, none⟩ = some (.slice blg b.lgn blc) := (hbel.cell (p := ⟨gb, off + t * 13 + 3, none⟩) hgb).trans (hc 3 (by decide))
      have c4 : wr.cell? ⟨gb, off + t * 13 + 4, none⟩ = some (.int .i64 b.pe) := (hbel.cell (p := ⟨gb, off + t * 13 + 4, none⟩) hgb).trans (hc 4 (by decide))
      have c5 : wr.cell? ⟨gb, off + t * 13 + 5, none⟩ = some (.int .i64 b.len) := (hbel.cell (p := ⟨gb, off + t * 13 + 5, none⟩) hgb).trans (hc 5 (by decide))
      have c6 : wr.cell? ⟨gb, off + t * 13 + 6, none⟩ = some (.int .i64 b.hei) := (hbel.cell (p := ⟨gb, off + t * 13 + 6, none⟩) hgb).trans (hc 6 (by decide))
      have c7 : wr.cell? ⟨gb, off + t * 13 + 7, none⟩ = some (.int .i64 b.cl) := (hbel.cell (p := ⟨gb, off + t * 13 + 7, none⟩) hgb).trans (hc 7 (by decide))
      have c8 : wr.cell? ⟨gb, off + t * 13 + 8, none⟩ = some (.bool b.all) := (hbel.cell (p := ⟨gb, off + t * 13 + 8, none⟩) hgb).trans (hc 8 (by decide))
      have c9 : wr.cell? ⟨gb, off + t * 13 + 9, none⟩ = some (.int .i64 b.be) := (hbel.cell (p := ⟨gb, off + t * 13 + 9, none⟩) hgb).trans (hc 9 (by decide))
      have c10 : wr.cell? ⟨gb, off + t * 13 + 10, none⟩ = some (.int .i64 b.state) := (hbel.cell (p := ⟨gb, off + t * 13 + 10, none⟩) hgb).trans (hc 10 (by decide))
      have c11 : wr.cell? ⟨gb, off + t * 13 + 11, none⟩ = some (.int .i64 b.unt) := (hbel.cell (p := ⟨gb, off + t * 13 + 11, none⟩) hgb).trans (hc 11 (by decide))
      have c12 : wr.cell? ⟨gb, off + t * 13 + 12, none⟩ = some (.int .i64 b.price) := (hbel.cell (p := ⟨gb, off + t * 13 + 12, none⟩) hgb).trans (hc 12 (by decide))
      clear hc hCt g1 s1 hrc his hbd
      by_cases he : b.who = bys
      · have e1 : (b.who == bys) = true := by simpa using he
        have HF : Hid (¬ FreshB R x.bk bys) := fun h => h.2 t hlt (by rw [HBD.out]; exact he)
        clear he
        go_wp2
        go_ret
        exact ⟨says_no HF.out, push hbel _⟩
      · have e1 : (b.who == bys) = false := by simpa using he
        have HB : Hid (∀ j, j < t + 1 → (x.bk j).who ≠ bys) := fun j hj => by
          by_cases c : j = t
          · rw [c, HBD.out]; exact he
          · exact HA.out j (by omega)
        clear he
        go_wp2
        go_roundw
        case rel => exact ⟨t + 1, by omega, by go_num, HB.out, push hbel _⟩
        case measure => simp [intOf]; omega
    · obtain rfl : t = R := by omega
      go_wp2_with (first | (go_at_call 119; refine (l4By_is _ _).mono ?_; rintro e w' ⟨rfl, hw'⟩; have hw' := hw'.symm; subst hw'))
      go_ret
      refine ⟨⟨_, rfl, ?_⟩, hbel⟩
      rw [decide_eq_true_eq]
      exact ⟨fun h => ⟨h, HA.out⟩, fun h => h.1⟩

end Go.Proofs.YtfallpinmhbemaaGreatDoor

namespace Go.Proofs.YtfallpinmhbemaaGreatDoor
open Go.RowKit

/-- What the specification's DoOp answers. -/
def DopAns (x : Off) (bys : Int) (y : OpD) (m base : Nat) (e : Ending) (w' : World) : Prop :=
  (OffOk x ∧ FreshB x.bkn x.bk bys ∧ ∃ x2 a1 c1 a2 c2 a3 c3 code name price rv L C A B D E, e = .returned (.tuple #[.agg #[.slice a1 x2.san c1, .slice a2 x2.ldn c2, .slice a3 x2.bkn c3], .agg #[.int .i64 code, .int .i64 name, .int .i64 price, rv], .bool true]) ∧
    OwnOff w' base (.slice a1 x2.san c1) (.slice a2 x2.ldn c2) (.slice a3 x2.bkn c3) x2.san x2.ldn x2.bkn x2 L C A B D E ∧ OpTo x bys y m x2 code name price ∧ (rv = .slice none 0 0 ∨ ∃ M b, RowsAre { x with ld := M } y b w' rv)) ∨
  (¬ (OffOk x ∧ FreshB x.bkn x.bk bys) ∧ e = .returned (.tuple #[.agg #[.slice none 0 0, .slice none 0 0, .slice none 0 0], .agg #[.int .i64 0, .int .i64 0, .int .i64 0, .slice none 0 0], .bool false]))

set_option maxHeartbeats 64000000 in
set_option maxRecDepth 100000 in
theorem specDop_any (x : Off) (asa ald abk alg : Option Addr) (csa cld cbk clg m : Nat) (bys : Int) (y : OpD) (w : World) (hs : Off.Short x 1048576) (hsa : SailsAt w asa x.san x.sa) (hld : LoadsAt w ald x.ldn x.ld) (hbk : BooksAt w abk x.bkn x.bk) (hcb : x.bkn ≤ cbk) (hlg : IntsAt w alg y.lgn y.lg) (hsl : SliceOk alg y.lgn clg) (hl : y.lgn ≤ 1048576) (ho : y.own.size ≤ 1048576) (hm : OpOk y → In y.kind 4 8 → y.name = (m : Int) + 1 ∧ m ≤ 1048576) :
    Calls Tryz.prog 80 #[.agg #[.slice asa x.san csa, .slice ald x.ldn cld, .slice abk x.bkn cbk], .int .i64 bys, .agg #[.int .i64 y.kind, .string y.own, .int .i64 y.name, .slice alg y.lgn clg, .int .i64 y.pe, .int .i64 y.len, .int .i64 y.hei, .int .i64 y.cl, .bool y.all, .int .i64 y.be, .int .i64 y.unt, .int .i64 y.now]] w fun e w' => DopAns x bys y m w.heap.size e w' ∧ Below w.heap.size w w' := by
  have HS : Hid (Off.Short x 1048576) := hs
  have HM : Hid (SailsAt w asa x.san x.sa ∧ LoadsAt w ald x.ldn x.ld ∧ BooksAt w abk x.bkn x.bk ∧ IntsAt w alg y.lgn y.lg ∧ SliceOk alg y.lgn clg) := ⟨hsa, hld, hbk, hlg, hsl⟩
  have HN : Hid (OpOk y → In y.kind 4 8 → y.name = (m : Int) + 1 ∧ m ≤ 1048576) := hm
  clear hs hsa hld hbk hlg hsl hm
  have hb0 : Below w.heap.size w ((((w.alloc (.cells #[.slice asa x.san csa, .slice ald x.ldn cld, .slice abk x.bkn cbk] 66)).alloc (.cells #[.int .i64 y.kind, .string y.own, .int .i64 y.name, .slice alg y.lgn clg, .int .i64 y.pe, .int .i64 y.len, .int .i64 y.hei, .int .i64 y.cl, .bool y.all, .int .i64 y.be, .int .i64 y.unt, .int .i64 y.now] 27)).alloc (.cells #[.slice none 0 0, .slice none 0 0, .slice none 0 0] 66)).alloc (.cells #[.int .i64 0, .int .i64 0, .int .i64 0, .slice none 0 0] 127)) := push (push (push (push (Below.refl _ _) _) _) _) _
  have b0 := blk_alloc (blk_alloc (blk_alloc (heap_alloc_new w (.cells #[.slice asa x.san csa, .slice ald x.ldn cld, .slice abk x.bkn cbk] 66)) (.cells #[.int .i64 y.kind, .string y.own, .int .i64 y.name, .slice alg y.lgn clg, .int .i64 y.pe, .int .i64 y.len, .int .i64 y.hei, .int .i64 y.cl, .bool y.all, .int .i64 y.be, .int .i64 y.unt, .int .i64 y.now] 27)) (.cells #[.slice none 0 0, .slice none 0 0, .slice none 0 0] 66)) (.cells #[.int .i64 0, .int .i64 0, .int .i64 0, .slice none 0 0] 127)
  have b1 := blk_alloc (blk_alloc (new2 w (.cells #[.slice asa x.san csa, .slice ald x.ldn cld, .slice abk x.bkn cbk] 66) (.cells #[.int .i64 y.kind, .string y.own, .int .i64 y.name, .slice alg y.lgn clg, .int .i64 y.pe, .int .i64 y.len, .int .i64 y.hei, .int .i64 y.cl, .bool y.all, .int .i64 y.be, .int .i64 y.unt, .int .i64 y.now] 27)) (.cells #[.slice none 0 0, .slice none 0 0, .slice none 0 0] 66)) (.cells #[.int .i64 0, .int .i64 0, .int .i64 0, .slice none 0 0] 127)
  have b2 := blk_alloc (show (((w.alloc (.cells #[.slice asa x.san csa, .slice ald x.ldn cld, .slice abk x.bkn cbk] 66)).alloc (.cells #[.int .i64 y.kind, .string y.own, .int .i64 y.name, .slice alg y.lgn clg, .int .i64 y.pe, .int .i64 y.len, .int .i64 y.hei, .int .i64 y.cl, .bool y.all, .int .i64 y.be, .int .i64 y.unt, .int .i64 y.now] 27)).alloc (.cells #[.slice none 0 0, .slice none 0 0, .slice none 0 0] 66)).heap[w.heap.size + 1 + 1]? = some (.cells #[.slice none 0 0, .slice none 0 0, .slice none 0 0] 66 (0, 0)) from by simpa using heap_alloc_new ((w.alloc (.cells #[.slice asa x.san csa, .slice ald x.ldn cld, .slice abk x.bkn cbk] 66)).alloc (.cells #[.int .i64 y.kind, .string y.own, .int .i64 y.name, .slice alg y.lgn clg, .int .i64 y.pe, .int .i64 y.len, .int .i64 y.hei, .int .i64 y.cl, .bool y.all, .int .i64 y.be, .int .i64 y.unt, .int .i64 y.now] 27)) (.cells #[.slice none 0 0, .slice none 0 0, .slice none 0 0] 66)) (.cells #[.int .i64 0, .int .i64 0, .int .i64 0, .slice none 0 0] 127)
  have b3 : ((((w.alloc (.cells #[.slice asa x.san csa, .slice ald x.ldn cld, .slice abk x.bkn cbk] 66)).alloc (.cells #[.int .i64 y.kind, .string y.own, .int .i64 y.name, .slice alg y.lgn clg, .int .i64 y.pe, .int .i64 y.len, .int .i64 y.hei, .int .i64 y.cl, .bool y.all, .int .i64 y.be, .int .i64 y.unt, .int .i64 y.now] 27)).alloc (.cells #[.slice none 0 0, .slice none 0 0, .slice none 0 0] 66)).alloc (.cells #[.int .i64 0, .int .i64 0, .int .i64 0, .slice none 0 0] 127)).heap[w.heap.size + 1 + 1 + 1]? = some (.cells #[.int .i64 0, .int .i64 0, .int .i64 0, .slice none 0 0] 127 (0, 0)) := by simpa using heap_alloc_new (((w.alloc (.cells #[.slice asa x.san csa, .slice ald x.ldn cld, .slice abk x.bkn cbk] 66)).alloc (.cells #[.int .i64 y.kind, .string y.own, .int .i64 y.name, .slice alg y.lgn clg, .int .i64 y.pe, .int .i64 y.len, .int .i64 y.hei, .int .i64 y.cl, .bool y.all, .int .i64 y.be, .int .i64 y.unt, .int .i64 y.now] 27)).alloc (.cells #[.slice none 0 0, .slice none 0 0, .slice none 0 0] 66)) (.cells #[.int .i64 0, .int .i64 0, .int .i64 0, .slice none 0 0] 127)
  go_enter Tryz.func80, Tryz.ntmps80
  go_wp2_with fail
  generalize ((((w.alloc (.cells #[.slice asa x.san csa, .slice ald x.ldn cld, .slice abk x.bkn cbk] 66)).alloc (.cells #[.int .i64 y.kind, .string y.own, .int .i64 y.name, .slice alg y.lgn clg, .int .i64 y.pe, .int .i64 y.len, .int .i64 y.hei, .int .i64 y.cl, .bool y.all, .int .i64 y.be, .int .i64 y.unt, .int .i64 y.now] 27)).alloc (.cells #[.slice none 0 0, .slice none 0 0, .slice none 0 0] 66)).alloc (.cells #[.int .i64 0, .int .i64 0, .int .i64 0, .slice none 0 0] 127)) = W at hb0 b0 b1 b2 b3 ⊢
  refine (specOff_raw x asa ald abk csa cld cbk _ HS.out (HM.out.1.below hb0) (HM.out.2.1.below hb0) (HM.out.2.2.1.below hb0) hcb).mono ?_
  rintro e V ⟨⟨t0, rfl, ht0⟩, hbv⟩
  have HT0 : Hid (t0 = true ↔ OffOk x) := ht0
  replace hb0 := after hb0 hbv
  replace b0 := blk_below b0 hbv
  replace b1 := blk_below b1 hbv
  replace b2 := blk_below b2 hbv
  replace b3 := blk_below b3 hbv
  clear hbv W ht0
  have f0 := blk_cell b0 0 _ rfl
  have f1 := blk_cell b0 1 _ rfl
  have f2 := blk_cell b0 2 _ rfl
  cases t0 with
  | false =>
    have HF : Hid (¬ (OffOk x ∧ FreshB x.bkn x.bk bys)) := fun h => by have := HT0.out.2 h.1; cases this
    have s0 := blk_cell b2 0 _ rfl
    have sf0 := blk_free b2 0
    have s1 := blk_cell b2 1 _ rfl
    have sf1 := blk_free b2 1
    have s2 := blk_cell b2 2 _ rfl
    have sf2 := blk_free b2 2
    have t0 := blk_cell b3 0 _ rfl
    have tf0 := blk_free b3 0
    have t1 := blk_cell b3 1 _ rfl
    have tf1 := blk_free b3 1
    have t2 := blk_cell b3 2 _ rfl
    have tf2 := blk_free b3 2
    have t3 := blk_cell b3 3 _ rfl
    have tf3 := blk_free b3 3
    have hkz := (keep3 _ (w.heap.size + 1 + 1) (.slice none 0 0) (.slice none 0 0) (.slice none 0 0)).blk b3 (by show ¬ _ = _; omega)
    have q2 := set3_blk b2 (.slice none 0 0) (.slice none 0 0) (.slice none 0 0)
    have q3 := (ans_keep _ (w.heap.size + 1 + 1 + 1) (.int .i64 0) (.int .i64 0) (.int .i64 0) (.slice none 0 0)).blk q2 (by show ¬ _ = _; omega)
    have q4 := ans_set hkz (.int .i64 0) (.int .i64 0) (.int .i64 0) (.slice none 0 0)
    have HBF : Hid _ := Kept.below (Kept.below hb0 hb0.size (keep3 _ (w.heap.size + 1 + 1) (.slice none 0 0) (.slice none 0 0) (.slice none 0 0)) (fun b e => by have e : b = w.heap.size + 1 + 1 := e; omega)) (by have := hb0.size; simpa using this) (ans_keep _ (w.heap.size + 1 + 1 + 1) (.int .i64 0) (.int .i64 0) (.int .i64 0) (.slice none 0 0)) (fun b e => by have e : b = w.heap.size + 1 + 1 + 1 := e; omega)
    go_wp2
    have x0 := blk_cell q3 0 _ rfl
    have x1 := blk_cell q3 1 _ rfl
    have x2 := blk_cell q3 2 _ rfl
    have z0 := blk_cell q4 0 _ rfl
    have z1 := blk_cell q4 1 _ rfl
    have z2 := blk_cell q4 2 _ rfl
    have z3 := blk_cell q4 3 _ rfl
    exact bodyPost_ret (v := .tuple #[.agg #[.slice none 0 0, .slice none 0 0, .slice none 0 0], .agg #[.int .i64 0, .int .i64 0, .int .i64 0, .slice none 0 0], .bool false]) (by simp [results, Tryz.results80, go_sem, x0, x1, x2, z0, z1, z2, z3]) rfl ⟨.inr ⟨HF.out, rfl⟩, HBF.out⟩
  | true =>
  have HOK : Hid (OffOk x) := HT0.out.1 rfl
  clear HT0
  go_wp2_with fail
  refine (l7Fresh_any asa ald abk x.san x.ldn x.bkn csa cld cbk x bys _ (by have := HS.out.2.2.1; omega) (HM.out.2.2.1.below hb0)).mono ?_
  rintro e V2 ⟨⟨t1, rfl, ht1⟩, hbv⟩
  have HT1 : Hid (t1 = true ↔ FreshB x.bkn x.bk bys) := ht1
  replace hb0 := after hb0 hbv
  replace b0 := blk_below b0 hbv
  replace b1 := blk_below b1 hbv
  replace b2 := blk_below b2 hbv
  replace b3 := blk_below b3 hbv
  clear hbv ht1 f0 f1 f2 V
  cases t1 with
  | false =>
    have HF : Hid (¬ (OffOk x ∧ FreshB x.bkn x.bk bys)) := fun h => by have := HT1.out.2 h.2; cases this
    have s0 := blk_cell b2 0 _ rfl
    have sf0 := blk_free b2 0
    have s1 := blk_cell b2 1 _ rfl
    have sf1 := blk_free b2 1
    have s2 := blk_cell b2 2 _ rfl
    have sf2 := blk_free b2 2
    have t0 := blk_cell b3 0 _ rfl
    have tf0 := blk_free b3 0
    have t1 := blk_cell b3 1 _ rfl
    have tf1 := blk_free b3 1
    have t2 := blk_cell b3 2 _ rfl
    have tf2 := blk_free b3 2
    have t3 := blk_cell b3 3 _ rfl
    have tf3 := blk_free b3 3
    have hkz := (keep3 _ (w.heap.size + 1 + 1) (.slice none 0 0) (.slice none 0 0) (.slice none 0 0)).blk b3 (by show ¬ _ = _; omega)
    have q2 := set3_blk b2 (.slice none 0 0) (.slice none 0 0) (.slice none 0 0)
    have q3 := (ans_keep _ (w.heap.size + 1 + 1 + 1) (.int .i64 0) (.int .i64 0) (.int .i64 0) (.slice none 0 0)).blk q2 (by show ¬ _ = _; omega)
    have q4 := ans_set hkz (.int .i64 0) (.int .i64 0) (.int .i64 0) (.slice none 0 0)
    have HBF : Hid _ := Kept.below (Kept.below hb0 hb0.size (keep3 _ (w.heap.size + 1 + 1) (.slice none 0 0) (.slice none 0 0) (.slice none 0 0)) (fun b e => by have e : b = w.heap.size + 1 + 1 := e; omega)) (by have := hb0.size; simpa using this) (ans_keep _ (w.heap.size + 1 + 1 + 1) (.int .i64 0) (.int .i64 0) (.int .i64 0) (.slice none 0 0)) (fun b e => by have e : b = w.heap.size + 1 + 1 + 1 := e; omega)
    go_wp2
    have x0 := blk_cell q3 0 _ rfl
    have x1 := blk_cell q3 1 _ rfl
    have x2 := blk_cell q3 2 _ rfl
    have z0 := blk_cell q4 0 _ rfl
    have z1 := blk_cell q4 1 _ rfl
    have z2 := blk_cell q4 2 _ rfl
    have z3 := blk_cell q4 3 _ rfl
    exact bodyPost_ret (v := .tuple #[.agg #[.slice none 0 0, .slice none 0 0, .slice none 0 0], .agg #[.int .i64 0, .int .i64 0, .int .i64 0, .slice none 0 0], .bool false]) (by simp [results, Tryz.results80, go_sem, x0, x1, x2, z0, z1, z2, z3]) rfl ⟨.inr ⟨HF.out, rfl⟩, HBF.out⟩
  | true =>
  have HFR : Hid (FreshB x.bkn x.bk bys) := HT1.out.1 rfl
  clear HT1
  have f0 := blk_cell b0 0 _ rfl
  have f1 := blk_cell b0 1 _ rfl
  have f2 := blk_cell b0 2 _ rfl
  have h0 := blk_cell b1 0 _ rfl
  have h1 := blk_cell b1 1 _ rfl
  have h2 := blk_cell b1 2 _ rfl
  have h3 := blk_cell b1 3 _ rfl
  have h4 := blk_cell b1 4 _ rfl
  have h5 := blk_cell b1 5 _ rfl
  have h6 := blk_cell b1 6 _ rfl
  have h7 := blk_cell b1 7 _ rfl
  have h8 := blk_cell b1 8 _ rfl
  have h9 := blk_cell b1 9 _ rfl
  have h10 := blk_cell b1 10 _ rfl
  have h11 := blk_cell b1 11 _ rfl
  go_wp2_with fail
  refine (l7Op_any x asa ald abk alg csa cld cbk clg m bys y _ HS.out (HM.out.1.below hb0) (HM.out.2.1.below hb0) (HM.out.2.2.1.below hb0) (HM.out.2.2.2.1.below hb0) HM.out.2.2.2.2 hl ho HOK.out HFR.out.1 HFR.out.2 HN.out).mono ?_
  rintro e u ⟨⟨x2, d1, e1, d2, e2, d3, e3, code, name, price, rv, L, C, A, B, D, E, rfl, how, hto, hrv⟩, hbu⟩
  have HOW : Hid (OwnOff u w.heap.size (.slice d1 x2.san e1) (.slice d2 x2.ldn e2) (.slice d3 x2.bkn e3) x2.san x2.ldn x2.bkn x2 L C A B D E) := how.lower hb0.size
  have HTO : Hid (OpTo x bys y m x2 code name price) := hto
  obtain ⟨ra, rn, rc, rfl⟩ : ∃ ra rn rc, rv = .slice ra rn rc := by
    rcases hrv with h | ⟨M, b, h⟩
    · exact ⟨_, _, _, h⟩
    · by_cases h9 : y.kind = 9
      · obtain ⟨_, _, _, h3⟩ := h.1 h9
        obtain ⟨ao, c, e, _⟩ := own_form h3
        exact ⟨ao, _, c, e⟩
      · exact ⟨none, 0, 0, h.2 h9⟩
  have HRV : Hid _ := hrv
  replace hb0 := after hb0 hbu
  replace b2 := blk_below b2 hbu
  replace b3 := blk_below b3 hbu
  clear how hto hrv hbu f0 f1 f2 h0 h1 h2 h3 h4 h5 h6 h7 h8 h9 h10 h11 b0 b1 V2
  have h3w : w.heap.size + 1 + 1 + 1 < u.heap.size := blk_lt b3
  go_upto_region 4 with fail
  have pA := blk_alloc (heap_alloc_new u (.cells #[.slice d1 x2.san e1, .slice d2 x2.ldn e2, .slice d3 x2.bkn e3] 66)) (.cells #[.int .i64 code, .int .i64 name, .int .i64 price, .slice ra rn rc] 127)
  have pB := new2 u (.cells #[.slice d1 x2.san e1, .slice d2 x2.ldn e2, .slice d3 x2.bkn e3] 66) (.cells #[.int .i64 code, .int .i64 name, .int .i64 price, .slice ra rn rc] 127)
  have hpu : Below u.heap.size u ((u.alloc (.cells #[.slice d1 x2.san e1, .slice d2 x2.ldn e2, .slice d3 x2.bkn e3] 66)).alloc (.cells #[.int .i64 code, .int .i64 name, .int .i64 price, .slice ra rn rc] 127)) := push (push (Below.refl _ _) _) _
  have HOf : Hid _ := HOW.out.below hpu
  have r2 := blk_below b2 hpu
  have r3 := blk_below b3 hpu
  have hbr := after hb0 hpu
  have HRf : Hid (Kept u ((u.alloc (.cells #[.slice d1 x2.san e1, .slice d2 x2.ldn e2, .slice d3 x2.bkn e3] 66)).alloc (.cells #[.int .i64 code, .int .i64 name, .int .i64 price, .slice ra rn rc] 127)) (fun b => b = w.heap.size + 1 + 1 ∨ b = w.heap.size + 1 + 1 + 1)) := Kept.of_below hpu
  generalize (u.alloc (.cells #[.slice d1 x2.san e1, .slice d2 x2.ldn e2, .slice d3 x2.bkn e3] 66)).alloc (.cells #[.int .i64 code, .int .i64 name, .int .i64 price, .slice ra rn rc] 127) = wf at pA pB hpu HOf r2 r3 hbr HRf ⊢
  generalize u.heap.size = qb at pA pB h3w ⊢
  have p0 := pA
  have pT := pB
  have KS : Hid (∀ z : World, z.heap[qb]? = some (.cells #[.slice d1 x2.san e1, .slice d2 x2.ldn e2, .slice d3 x2.bkn e3] 66 (0, 0)) → z.heap[qb + 1]? = some (.cells #[.int .i64 code, .int .i64 name, .int .i64 price, .slice ra rn rc] 127 (0, 0)) → z.cell? ⟨qb, 0, none⟩ = some (.slice d1 x2.san e1) ∧ z.cell? ⟨qb, 1, none⟩ = some (.slice d2 x2.ldn e2) ∧ z.cell? ⟨qb, 2, none⟩ = some (.slice d3 x2.bkn e3) ∧ z.cell? ⟨qb + 1, 0, none⟩ = some (.int .i64 code) ∧ z.cell? ⟨qb + 1, 1, none⟩ = some (.int .i64 name) ∧ z.cell? ⟨qb + 1, 2, none⟩ = some (.int .i64 price) ∧ z.cell? ⟨qb + 1, 3, none⟩ = some (.slice ra rn rc)) := fun z h1 h2 => ⟨blk_cell h1 0 _ rfl, blk_cell h1 1 _ rfl, blk_cell h1 2 _ rfl, blk_cell h2 0 _ rfl, blk_cell h2 1 _ rfl, blk_cell h2 2 _ rfl, blk_cell h2 3 _ rfl⟩
  have s0 := blk_cell r2 0 _ rfl
  have sf0 := blk_free r2 0
  have s1 := blk_cell r2 1 _ rfl
  have sf1 := blk_free r2 1
  have s2 := blk_cell r2 2 _ rfl
  have sf2 := blk_free r2 2
  have t0 := blk_cell r3 0 _ rfl
  have tf0 := blk_free r3 0
  have t1 := blk_cell r3 1 _ rfl
  have tf1 := blk_free r3 1
  have t2 := blk_cell r3 2 _ rfl
  have tf2 := blk_free r3 2
  have t3 := blk_cell r3 3 _ rfl
  have tf3 := blk_free r3 3
  go_region_held3 (fun w' => w'.cell? ⟨qb, 0, none⟩ = some (.slice d1 x2.san e1) ∧ w'.cell? ⟨qb, 1, none⟩ = some (.slice d2 x2.ldn e2) ∧ w'.cell? ⟨qb, 2, none⟩ = some (.slice d3 x2.bkn e3) ∧ w'.cell? ⟨qb + 1, 0, none⟩ = some (.int .i64 code) ∧ w'.cell? ⟨qb + 1, 1, none⟩ = some (.int .i64 name) ∧ w'.cell? ⟨qb + 1, 2, none⟩ = some (.int .i64 price) ∧ w'.cell? ⟨qb + 1, 3, none⟩ = some (.slice ra rn rc))
    (first | (refine KS.out _ ?_ ?_ <;> (repeat (first | with_reducible exact p0 | with_reducible exact pT | (with_reducible refine blk_drew ?_) | (with_reducible refine blk_set_other ?_ _ _ ?_; rotate_left; (focus omega))))))
    (fail)
  obtain ⟨HOF, rF2, rF3, hbF, hkF⟩ := op_fin hbr HOf.out r2 r3 (by omega) (by omega) (.int .i64 code) (.int .i64 name) (.int .i64 price) (.slice ra rn rc) rfl
  have HOG : Hid _ := HOF.below (Below.drew (Below.refl _ _))
  have HBG : Hid _ := Below.drew hbF
  have HKG : Hid _ := hkF.trans (Kept.of_below (Below.drew (Below.refl _ _)))
  clear HOF hbF hkF
  have x0 := blk_cell (blk_drew rF2) 0 _ rfl
  have x1 := blk_cell (blk_drew rF2) 1 _ rfl
  have xx2 := blk_cell (blk_drew rF2) 2 _ rfl
  have z0 := blk_cell (blk_drew rF3) 0 _ rfl
  have z1 := blk_cell (blk_drew rF3) 1 _ rfl
  have z2 := blk_cell (blk_drew rF3) 2 _ rfl
  have z3 := blk_cell (blk_drew rF3) 3 _ rfl
  go_wp2
  refine bodyPost_ret (v := .tuple #[.agg #[.slice d1 x2.san e1, .slice d2 x2.ldn e2, .slice d3 x2.bkn e3], .agg #[.int .i64 code, .int .i64 name, .int .i64 price, .slice ra rn rc], .bool true]) (by simp [results, Tryz.results80, go_sem, x0, x1, xx2, z0, z1, z2, z3]) rfl ⟨.inl ⟨HOK.out, HFR.out, x2, d1, e1, d2, e2, d3, e3, code, name, price, .slice ra rn rc, L, C, A, B, D, E, rfl, ?_, HTO.out, ?_⟩, HBG.out⟩
  · exact HOG.out
  · rcases HRV.out with h | ⟨M, b, h⟩
    · exact .inl h
    · exact .inr ⟨M, b, rows_kept h (HRf.out.trans HKG.out) (fun g e => by rcases e with e | e; exact ⟨_, _, by rw [e]; exact b2, by decide⟩; exact ⟨_, _, by rw [e]; exact b3, by decide⟩)⟩

end Go.Proofs.YtfallpinmhbemaaGreatDoor

namespace Go.Proofs.YtfallpinmhbemaaGreatDoor
open Go.RowKit

theorem loads_short {x : Off} {M : Nat → Load} {n B : Nat} (hB : 60 ≤ B) (hn : n = x.san) (h : ∀ i, i < x.san → LoadOk (x.sa i) (M i)) : LoadsShort n M B := fun i hi => by
  have g := h i (by omega)
  exact ⟨by have := ((deck_iff _ _ _).1 g.1).2.1; show (M i).stn ≤ _; omega, by have := g.2.1.2.1; show (M i).ron ≤ _; omega, by have := g.2.2.2.1; show (M i).sen ≤ _; omega⟩
/-- What l7End leaves is short. -/
theorem EndTo.short {x : Off} {bys : Int} {y : OpD} {m : Nat} {x2 : Off} {code name price : Int} {B : Nat} (h : EndTo x bys y m x2 code name price) (hs : Off.Short x B) (hB : 60 ≤ B) (ho : y.own.size ≤ B) (hl : y.lgn ≤ 3) : Off.Short x2 B := by
  obtain ⟨h1, h2, h3⟩ := hs
  rcases h with ⟨_, rfl, _⟩ | ⟨_, rfl, _⟩ | ⟨_, _, rfl, _⟩ | ⟨_, h30, rfl, _⟩ | ⟨_, hm, rfl, _⟩
  · exact ⟨h1, h2, h3⟩
  · exact ⟨h1, h2, h3⟩
  · exact ⟨h1, h2, h3⟩
  · refine ⟨h1, h2, by show x.bkn + 1 ≤ B; omega, fun i hi => ?_⟩
    by_cases c : i = x.bkn
    · show Book.Short (setB x.bk x.bkn (newBook x.bkn bys y) i) B
      rw [c, setB_at]
      exact ⟨ho, by show y.lgn ≤ B; omega⟩
    · show Book.Short (setB x.bk x.bkn (newBook x.bkn bys y) i) B
      rw [setB_ne _ _ _ c]
      exact h3.2 i (by have : i < x.bkn + 1 := hi; omega)
  · refine ⟨h1, h2, h3.1, fun i hi => ?_⟩
    show Book.Short (setB x.bk m (endBook (x.bk m) bys y) i) B
    by_cases c : i = m
    · rw [c, setB_at]
      have hb := h3.2 m hm
      unfold endBook
      split
      · exact hb
      · split
        · exact ⟨hb.1, by show y.lgn ≤ B; omega⟩
        · split
          · exact hb
          · split
            · exact ⟨ho, hb.2⟩
            · exact hb
    · rw [setB_ne _ _ _ c]
      exact h3.2 i hi
/-- What an operation leaves is short. -/
theorem OpTo.short {x : Off} {bys : Int} {y : OpD} {m : Nat} {x2 : Off} {code name price : Int} {B : Nat} (h : OpTo x bys y m x2 code name price) (hO : OffOk x) (hs : Off.Short x B) (hB : 60 ≤ B) (ho : y.own.size ≤ B) : Off.Short x2 B := by
  rcases h with ⟨_, rfl, _⟩ | ⟨_, _, rfl, _⟩ | ⟨hf, M, x3, hst, he, h1, h2⟩
  · exact hs
  · exact hs
  · by_cases c : code ≠ 0 ∨ y.kind = 1
    · rw [h1 c]; exact hs
    · rw [h2 c]
      exact he.short ⟨hs.1, ⟨hs.2.1.1, loads_short hB hO.2.1 hst.good⟩, hs.2.2⟩ hB ho (opOk_pe hf.1).2
/-- Its bookings are few. -/
theorem OpTo.few {x : Off} {bys : Int} {y : OpD} {m : Nat} {x2 : Off} {code name price : Int} (h : OpTo x bys y m x2 code name price) (hO : OffOk x) : x2.bkn ≤ 30 ∧ x2.san = x.san ∧ x2.sa = x.sa := by
  have h30 := hO.2.2.1
  rcases h with ⟨_, rfl, _⟩ | ⟨_, _, rfl, _⟩ | ⟨hf, M, x3, hst, he, h1, h2⟩
  · exact ⟨h30, rfl, rfl⟩
  · exact ⟨h30, rfl, rfl⟩
  · by_cases c : code ≠ 0 ∨ y.kind = 1
    · rw [h1 c]; exact ⟨h30, rfl, rfl⟩
    · rw [h2 c]
      rcases he with ⟨_, rfl, _⟩ | ⟨_, rfl, _⟩ | ⟨_, _, rfl, _⟩ | ⟨_, h3, rfl, _⟩ | ⟨_, _, rfl, _⟩
      · exact ⟨h30, rfl, rfl⟩
      · exact ⟨h30, rfl, rfl⟩
      · exact ⟨h30, rfl, rfl⟩
      · exact ⟨by have h3 : x.bkn < 30 := h3; show x.bkn + 1 ≤ 30; omega, rfl, rfl⟩
      · exact ⟨h30, rfl, rfl⟩

end Go.Proofs.YtfallpinmhbemaaGreatDoor

namespace Go.Proofs.YtfallpinmhbemaaGreatDoor
open Go.RowKit

/-- The office behind: told in memory from base on. -/
def NextOff (base : Nat) (san : Nat) (b1 b2 b3 : Option Addr) (m1 m2 m3 d1 d2 d3 : Nat) (tb : Bool) (u : World) : Prop :=
  tb = false ∨ ∃ (x2 : Off) (L C A B D E : Nat → Value), m1 = x2.san ∧ m2 = x2.ldn ∧ m3 = x2.bkn ∧ x2.san = san ∧ x2.bkn ≤ 30 ∧ Off.Short x2 1048576 ∧ OwnOff u base (.slice b1 m1 d1) (.slice b2 m2 d2) (.slice b3 m3 d3) x2.san x2.ldn x2.bkn x2 L C A B D E
theorem NextOff.below {base san : Nat} {b1 b2 b3 : Option Addr} {m1 m2 m3 d1 d2 d3 : Nat} {tb : Bool} {u u' : World} (h : NextOff base san b1 b2 b3 m1 m2 m3 d1 d2 d3 tb u) (hb : Below u.heap.size u u') : NextOff base san b1 b2 b3 m1 m2 m3 d1 d2 d3 tb u' := by
  rcases h with h | ⟨x2, L, C, A, B, D, E, h1, h2, h3, h4, h5, h6, h7⟩
  · exact .inl h
  · exact .inr ⟨x2, L, C, A, B, D, E, h1, h2, h3, h4, h5, h6, h7.below hb⟩
theorem NextOff.lower {base base' san : Nat} {b1 b2 b3 : Option Addr} {m1 m2 m3 d1 d2 d3 : Nat} {tb : Bool} {u : World} (h : NextOff base san b1 b2 b3 m1 m2 m3 d1 d2 d3 tb u) (hb : base' ≤ base) : NextOff base' san b1 b2 b3 m1 m2 m3 d1 d2 d3 tb u := by
  rcases h with h | ⟨x2, L, C, A, B, D, E, h1, h2, h3, h4, h5, h6, h7⟩
  · exact .inl h
  · exact .inr ⟨x2, L, C, A, B, D, E, h1, h2, h3, h4, h5, h6, h7.lower hb⟩
theorem NextOff.box {base san : Nat} {b1 b2 b3 : Option Addr} {m1 m2 m3 d1 d2 d3 : Nat} {tb : Bool} {u u' : World} {g t : Nat} {cs : Array Value} (h : NextOff base san b1 b2 b3 m1 m2 m3 d1 d2 d3 tb u) (hk : Kept u u' (fun b => b = g)) (hg : u.heap[g]? = some (.cells cs t (0, 0)))
    (ht : 37 ≠ t ∧ 106 ≠ t ∧ 110 ≠ t ∧ 136 ≠ t ∧ 186 ≠ t ∧ 190 ≠ t ∧ 138 ≠ t ∧ 131 ≠ t ∧ 3 ≠ t) : NextOff base san b1 b2 b3 m1 m2 m3 d1 d2 d3 tb u' := by
  rcases h with h | ⟨x2, L, C, A, B, D, E, h1, h2, h3, h4, h5, h6, h7⟩
  · exact .inl h
  · exact .inr ⟨x2, L, C, A, B, D, E, h1, h2, h3, h4, h5, h6, h7.box hk hg ht⟩

theorem dop_next (x : Off) (asa ald abk alg : Option Addr) (csa cld cbk clg : Nat) (bys : Int) (y : OpD) (w : World) (hs : Off.Short x 1048576) (hsa : SailsAt w asa x.san x.sa) (hld : LoadsAt w ald x.ldn x.ld) (hbk : BooksAt w abk x.bkn x.bk) (hcb : x.bkn ≤ cbk) (hlg : IntsAt w alg y.lgn y.lg) (hsl : SliceOk alg y.lgn clg) (hl : y.lgn ≤ 1048576) (ho : y.own.size ≤ 1048576) :
    Calls Tryz.prog 80 #[.agg #[.slice asa x.san csa, .slice ald x.ldn cld, .slice abk x.bkn cbk], .int .i64 bys, .agg #[.int .i64 y.kind, .string y.own, .int .i64 y.name, .slice alg y.lgn clg, .int .i64 y.pe, .int .i64 y.len, .int .i64 y.hei, .int .i64 y.cl, .bool y.all, .int .i64 y.be, .int .i64 y.unt, .int .i64 y.now]] w fun e w' =>
      (∃ b1 b2 b3 b4 m1 m2 m3 m4 d1 d2 d3 d4 k1 k2 k3 tb, e = .returned (.tuple #[.agg #[.slice b1 m1 d1, .slice b2 m2 d2, .slice b3 m3 d3], .agg #[.int .i64 k1, .int .i64 k2, .int .i64 k3, .slice b4 m4 d4], .bool tb]) ∧ Hid (NextOff w.heap.size x.san b1 b2 b3 m1 m2 m3 d1 d2 d3 tb w')) ∧ Below w.heap.size w w' := by
  refine (specDop_any x asa ald abk alg csa cld cbk clg (y.name - 1).toNat bys y w hs hsa hld hbk hcb hlg hsl hl ho (fun h1 h2 => ?_)).mono ?_
  · have h3 := h1.2.2.1
    unfold NameOk at h3
    rw [if_pos h2] at h3
    unfold In at h3
    omega
  · rintro e w' ⟨h, hb⟩
    refine ⟨?_, hb⟩
    rcases h with ⟨hO, _, x2, a1, c1, a2, c2, a3, c3, code, name, price, rv, L, C, A, B, D, E, rfl, hown, hto, hrv⟩ | ⟨_, rfl⟩
    · have hf := hto.few hO
      have hsh := hto.short hO hs (by decide) ho
      obtain ⟨b4, m4, d4, rfl⟩ : ∃ b4 m4 d4, rv = .slice b4 m4 d4 := by
        rcases hrv with rfl | ⟨M, b, hr⟩
        · exact ⟨_, _, _, rfl⟩
        · by_cases c9 : y.kind = 9
          · obtain ⟨k, _, _, hk⟩ := hr.1 c9
            obtain ⟨q1, q2, e, _⟩ := own_form hk
            exact ⟨_, _, _, e⟩
          · exact ⟨_, _, _, hr.2 c9⟩
      exact ⟨a1, a2, a3, b4, _, _, _, m4, c1, c2, c3, d4, code, name, price, true, rfl, .inr ⟨x2, L, C, A, B, D, E, rfl, rfl, rfl, hf.2.1, hf.1, hsh, hown⟩⟩
    · exact ⟨none, none, none, none, 0, 0, 0, 0, 0, 0, 0, 0, 0, 0, 0, false, rfl, .inl rfl⟩

end Go.Proofs.YtfallpinmhbemaaGreatDoor
