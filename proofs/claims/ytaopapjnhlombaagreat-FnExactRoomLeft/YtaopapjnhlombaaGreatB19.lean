/-
  OWN TEXT: SpecOff, SpecLeft, PlainLeft.
-/
import Derived.Deep.RegionHeld3
import Derived.Test.YtaopapjnhlombaaGreatB12
import Derived.Test.YtaopapjnhlombaaGreatB16
import Derived.Test.YtaopapjnhlombaaGreatB17
import Derived.Test.YtaopapjnhlombaaGreatB18
import Derived.Test.YtaopapjnhlombaaGreatB15
namespace Go.Proofs.YtaopapjnhlombaaGreat
open Go.RowKit

set_option maxHeartbeats 12800000 in
set_option maxRecDepth 100000 in
theorem specOff_raw (x : Off) (asa ald abk : Option Addr) (csa cld cbk : Nat) (w : World) (hs : Off.Short x 1048576) (hsa : SailsAt w asa x.san x.sa) (hld : LoadsAt w ald x.ldn x.ld) (hbk : BooksAt w abk x.bkn x.bk) (hcb : x.bkn ≤ cbk) :
    Calls Tryz.prog 22 #[.agg #[.slice asa x.san csa, .slice ald x.ldn cld, .slice abk x.bkn cbk]] w fun e w' => SaysIf (OffOk x) e ∧ Below w.heap.size w w' := by
  have HSA : Hid (SailsAt w asa x.san x.sa) := hsa
  have HLD : Hid (LoadsAt w ald x.ldn x.ld) := hld
  have HBK : Hid (BooksAt w abk x.bkn x.bk) := hbk
  have HSH : Hid (Off.Short x 1048576) := hs
  have n1 : x.san ≤ 1048576 := hs.1.1
  have n2 : x.ldn ≤ 1048576 := hs.2.1.1
  have n3 : x.bkn ≤ 1048576 := hs.2.2.1
  clear hsa hld hbk hs
  have hb0 : Below w.heap.size w (w.alloc (.cells #[.slice asa x.san csa, .slice ald x.ldn cld, .slice abk x.bkn cbk] 35)) := push (Below.refl _ _) _
  have bO := heap_alloc_new w (.cells #[.slice asa x.san csa, .slice ald x.ldn cld, .slice abk x.bkn cbk] 35)
  go_enter Tryz.func22, Tryz.ntmps22
  go_wp2_with fail
  generalize w.alloc (.cells #[.slice asa x.san csa, .slice ald x.ldn cld, .slice abk x.bkn cbk] 35) = V0 at hb0 bO ⊢
  refine (specTab_any asa x.san csa x.sa _ n1 HSH.out.1.2 (HSA.out.below hb0)).mono ?_
  rintro e V ⟨⟨t0, rfl, ht0⟩, hbv⟩
  have HT0 : Hid (t0 = true ↔ GoodTab x.san x.sa) := ht0
  have bO1 := blk_below bO hbv
  have hb1 := after hb0 hbv
  clear ht0 hb0 bO hbv V0
  have z0 := blk_cell bO1 0 _ rfl
  have z1 := blk_cell bO1 1 _ rfl
  have z2 := blk_cell bO1 2 _ rfl
  cases t0 with
  | false =>
    have HN : Hid (¬ OffOk x) := fun h => by have := HT0.out.2 h.1; cases this
    go_wp2
    go_ret
    exact ⟨says_no HN.out, hb1⟩
  | true =>
  have HTAB : Hid (GoodTab x.san x.sa) := HT0.out.1 rfl
  clear HT0
  by_cases m1 : x.ldn = x.san
  case neg =>
    have e1 : ((x.ldn : Int) != (x.san : Int)) = true := by simp; omega
    have HN : Hid (¬ OffOk x) := fun h => m1 h.2.1
    clear m1
    go_wp2
    go_ret
    exact ⟨says_no HN.out, hb1⟩
  have e1 : ((x.ldn : Int) != (x.san : Int)) = false := by simp; omega
  by_cases m2 : x.bkn ≤ 30
  case neg =>
    have e2 : decide ((30 : Int) < (x.bkn : Int)) = true := by simp; omega
    have HN : Hid (¬ OffOk x) := fun h => m2 h.2.2.1
    clear m1 m2
    go_wp2
    go_ret
    exact ⟨says_no HN.out, hb1⟩
  have e2 : decide ((30 : Int) < (x.bkn : Int)) = false := by simp; omega
  have HM1 : Hid (x.ldn = x.san) := m1
  have HM2 : Hid (x.bkn ≤ 30) := m2
  clear m1
  go_wp2
  clear e1 e2 z0 z1 z2
  go_loopw [3, 4, 5, 37] (fun _ _ _ q wr => ∃ k : Nat, k ≤ x.san ∧ q = .int .i64 k ∧ (∀ j, j < k → LoadOk (x.sa j) (x.ld j)) ∧ Below V.heap.size V wr) (fun _ _ _ q _ => x.san - (intOf q).toNat)
  case atStart => exact ⟨0, Nat.zero_le _, rfl, fun j hj => by omega, Below.refl _ _⟩
  case round =>
    obtain ⟨k, hk, rfl, hall, hbel⟩ := hrel
    have HA : Hid (∀ j, j < k → LoadOk (x.sa j) (x.ld j)) := hall
    clear hall
    have hbw := after hb1 hbel
    by_cases hlt : k < x.san
    · obtain ⟨sb, so, la, lc, ca, cc, rfl, f0, f1, f2, f3, f4, f5, f6, f7, hla, hca, sla, sca⟩ := HSA.out k hlt
      obtain ⟨s, hsd⟩ : ∃ s, s = x.sa k := ⟨_, rfl⟩
      rw [← hsd] at f0 f1 f2 f3 f4 f5 f6 f7 hla hca sla sca
      have HSD : Hid (s = x.sa k) := hsd
      have HSS : Hid (ShortS s 1048576) := by rw [hsd]; exact HSH.out.1.2 k hlt
      have lsb := World.block_lt_of_cell? w _ f0
      have c0 : wr.cell? ⟨sb, so + k * 8, none⟩ = some (.int .i64 s.id) := (hbw.cell (p := ⟨sb, so + k * 8, none⟩) lsb).trans f0
      have c1 : wr.cell? ⟨sb, so + k * 8 + 1, none⟩ = some (.string s.fr) := (hbw.cell (p := ⟨sb, so + k * 8 + 1, none⟩) lsb).trans f1
      have c2 : wr.cell? ⟨sb, so + k * 8 + 2, none⟩ = some (.string s.dst) := (hbw.cell (p := ⟨sb, so + k * 8 + 2, none⟩) lsb).trans f2
      have c3 : wr.cell? ⟨sb, so + k * 8 + 3, none⟩ = some (.int .i64 s.dep) := (hbw.cell (p := ⟨sb, so + k * 8 + 3, none⟩) lsb).trans f3
      have c4 : wr.cell? ⟨sb, so + k * 8 + 4, none⟩ = some (.int .i64 s.arr) := (hbw.cell (p := ⟨sb, so + k * 8 + 4, none⟩) lsb).trans f4
      have c5 : wr.cell? ⟨sb, so + k * 8 + 5, none⟩ = some (.slice la s.la.n lc) := (hbw.cell (p := ⟨sb, so + k * 8 + 5, none⟩) lsb).trans f5
      have c6 : wr.cell? ⟨sb, so + k * 8 + 6, none⟩ = some (.slice ca s.ca.n cc) := (hbw.cell (p := ⟨sb, so + k * 8 + 6, none⟩) lsb).trans f6
      have c7 : wr.cell? ⟨sb, so + k * 8 + 7, none⟩ = some (.int .i64 s.most) := (hbw.cell (p := ⟨sb, so + k * 8 + 7, none⟩) lsb).trans f7
      obtain ⟨C, hC, hI⟩ := HLD.out
      obtain ⟨lb, lo, rfl, hc⟩ := hC k (by have := HM1.out; omega)
      obtain ⟨l, hld⟩ : ∃ l, l = x.ld k := ⟨_, rfl⟩
      obtain ⟨ast, cst, aro, cro, ase, cse, eC, hst, sst, hro, sro, hse, sse⟩ := hI k (by have := HM1.out; omega)
      rw [← hld] at eC hst sst hro sro hse sse
      have HLL : Hid (l = x.ld k) := hld
      have HLS : Hid (Load.Short l 1048576) := by rw [hld]; exact HSH.out.2.1.2 k (by have := HM1.out; omega)
      have llb : lb < w.heap.size := World.block_lt_of_cell? w _ (hc 0 (by decide))
      have d0 : ∀ o, (wr.alloc o).cell? ⟨lb, lo + k * 3, none⟩ = some (.slice ast l.stn cst) := fun o => ((hbw.alloc hbw.size o).cell (p := ⟨lb, lo + k * 3, none⟩) llb).trans (by have := hc 0 (by decide); rw [eC] at this; exact this)
      have d1 : ∀ o, (wr.alloc o).cell? ⟨lb, lo + k * 3 + 1, none⟩ = some (.slice aro l.ron cro) := fun o => ((hbw.alloc hbw.size o).cell (p := ⟨lb, lo + k * 3 + 1, none⟩) llb).trans (by have := hc 1 (by decide); rw [eC] at this; exact this)
      have d2 : ∀ o, (wr.alloc o).cell? ⟨lb, lo + k * 3 + 2, none⟩ = some (.slice ase l.sen cse) := fun o => ((hbw.alloc hbw.size o).cell (p := ⟨lb, lo + k * 3 + 2, none⟩) llb).trans (by have := hc 2 (by decide); rw [eC] at this; exact this)
      have HLA : Hid (PairsAt w la s.la) := hla
      have HCA : Hid (PairsAt w ca s.ca) := hca
      have HST : Hid (StaysAt w ast l.stn l.st) := hst
      have HRO : Hid (RoomsAt w aro l.ron l.ro) := hro
      have HSE : Hid (SeatsAt w ase l.sen l.se) := hse
      have q1 : l.stn ≤ cst := sst.1
      have q2 : l.ron ≤ cro := sro.1
      have q3 : l.sen ≤ cse := sse.1
      clear hC hI hc eC hsd hld f0 f1 f2 f3 f4 f5 f6 f7 hla hca sla sca hst sst hro sro hse sse
      have hk0 : (0 : Int) ≤ (k : Int) := by omega
      have hk1 : (k : Int) < (x.ldn : Int) := by have := HM1.out; omega
      have z1 : ∀ o, (wr.alloc o).cell? ⟨w.heap.size, 1, none⟩ = some (.slice (some ⟨lb, lo, none⟩) x.ldn cld) := fun o => blk_cell (blk_alloc (blk_below bO1 hbel) o) 1 _ rfl
      go_wp2_with fail
      have hbx : Below V.heap.size V ((wr.alloc (.cells #[.int .i64 s.id, .string s.fr, .string s.dst, .int .i64 s.dep, .int .i64 s.arr, .slice la s.la.n lc, .slice ca s.ca.n cc, .int .i64 s.most] 59)).alloc (.cells #[.slice ast l.stn cst, .slice aro l.ron cro, .slice ase l.sen cse] 64)) := (hbel.alloc hbel.size _).alloc (by have := hbel.size; simp; omega) _
      have bS : ((wr.alloc (.cells #[.int .i64 s.id, .string s.fr, .string s.dst, .int .i64 s.dep, .int .i64 s.arr, .slice la s.la.n lc, .slice ca s.ca.n cc, .int .i64 s.most] 59)).alloc (.cells #[.slice ast l.stn cst, .slice aro l.ron cro, .slice ase l.sen cse] 64)).heap[wr.heap.size]? = some (.cells #[.int .i64 s.id, .string s.fr, .string s.dst, .int .i64 s.dep, .int .i64 s.arr, .slice la s.la.n lc, .slice ca s.ca.n cc, .int .i64 s.most] 59 (0, 0)) := blk_alloc (heap_alloc_new wr _) _
      have bL : ((wr.alloc (.cells #[.int .i64 s.id, .string s.fr, .string s.dst, .int .i64 s.dep, .int .i64 s.arr, .slice la s.la.n lc, .slice ca s.ca.n cc, .int .i64 s.most] 59)).alloc (.cells #[.slice ast l.stn cst, .slice aro l.ron cro, .slice ase l.sen cse] 64)).heap[wr.heap.size + 1]? = some (.cells #[.slice ast l.stn cst, .slice aro l.ron cro, .slice ase l.sen cse] 64 (0, 0)) := by simpa using heap_alloc_new (wr.alloc _) _
      generalize ((wr.alloc (.cells #[.int .i64 s.id, .string s.fr, .string s.dst, .int .i64 s.dep, .int .i64 s.arr, .slice la s.la.n lc, .slice ca s.ca.n cc, .int .i64 s.most] 59)).alloc (.cells #[.slice ast l.stn cst, .slice aro l.ron cro, .slice ase l.sen cse] 64)) = X at hbx bS bL ⊢
      clear c0 c1 c2 c3 c4 c5 c6 c7 d0 d1 d2 z1 hbw
      have hbw := after hb1 hbx
      have s6 := blk_cell bS 6 _ rfl
      have s7 := blk_cell bS 7 _ rfl
      have l1 := blk_cell bL 1 _ rfl
      have l2 := blk_cell bL 2 _ rfl
      refine (specDeck_any la ast s.la.n lc l.stn cst s.la l.st _ rfl HSS.out.2.2.1 HLS.out.1 q1 (HLA.out.below hbw) (HST.out.below hbw)).mono ?_
      rintro e X1 ⟨⟨t1, rfl, ht1⟩, hbq⟩
      have HT1 : Hid (t1 = true ↔ DeckS s.la l.stn l.st) := ht1
      clear ht1
      have bS2 := blk_below bS hbq
      have bL2 := blk_below bL hbq
      have hbx2 := after hbx hbq
      clear s6 s7 l1 l2 bS bL hbx hbw hbq
      have bS := bS2
      have bL := bL2
      have hbx := hbx2
      clear bS2 bL2 hbx2
      have hbw := after hb1 hbx
      have s6 := blk_cell bS 6 _ rfl
      have s7 := blk_cell bS 7 _ rfl
      have l1 := blk_cell bL 1 _ rfl
      have l2 := blk_cell bL 2 _ rfl
      cases t1 with
      | false =>
        have HN : Hid (¬ OffOk x) := fun h => by have h := h.2.2.2.1 k hlt; rw [← HSD.out, ← HLL.out] at h; have := HT1.out.2 h.1; cases this
        go_wp2
        go_ret
        exact ⟨says_no HN.out, hbw⟩
      | true =>
      have HP1 : Hid (DeckS s.la l.stn l.st) := HT1.out.1 rfl
      clear HT1
      go_wp2_with fail
      refine (specRooms_any ca aro s.ca.n cc l.ron cro s.ca l.ro _ rfl HSS.out.2.2.2 HLS.out.2.1 q2 (HCA.out.below hbw) (HRO.out.below hbw)).mono ?_
      rintro e X2 ⟨⟨t2, rfl, ht2⟩, hbq⟩
      have HT2 : Hid (t2 = true ↔ RoomsS s.ca l.ron l.ro) := ht2
      clear ht2
      have bS2 := blk_below bS hbq
      have bL2 := blk_below bL hbq
      have hbx2 := after hbx hbq
      clear s6 s7 l1 l2 bS bL hbx hbw hbq
      have bS := bS2
      have bL := bL2
      have hbx := hbx2
      clear bS2 bL2 hbx2
      have hbw := after hb1 hbx
      have s6 := blk_cell bS 6 _ rfl
      have s7 := blk_cell bS 7 _ rfl
      have l1 := blk_cell bL 1 _ rfl
      have l2 := blk_cell bL 2 _ rfl
      cases t2 with
      | false =>
        have HN : Hid (¬ OffOk x) := fun h => by have h := h.2.2.2.1 k hlt; rw [← HSD.out, ← HLL.out] at h; have := HT2.out.2 h.2.1; cases this
        go_wp2
        go_ret
        exact ⟨says_no HN.out, hbw⟩
      | true =>
      have HP2 : Hid (RoomsS s.ca l.ron l.ro) := HT2.out.1 rfl
      clear HT2
      go_wp2_with fail
      refine (specSeats_any s.most ase l.sen cse l.se _ (by have := HLS.out.2.2; omega) q3 (HSE.out.below hbw)).mono ?_
      rintro e X3 ⟨⟨t3, rfl, ht3⟩, hbq⟩
      have HT3 : Hid (t3 = true ↔ SeatsOk s.most l.sen l.se) := ht3
      clear ht3
      have bS2 := blk_below bS hbq
      have bL2 := blk_below bL hbq
      have hbx2 := after hbx hbq
      clear s6 s7 l1 l2 bS bL hbx hbw hbq
      have bS := bS2
      have bL := bL2
      have hbx := hbx2
      clear bS2 bL2 hbx2
      have hbw := after hb1 hbx
      have s6 := blk_cell bS 6 _ rfl
      have s7 := blk_cell bS 7 _ rfl
      have l1 := blk_cell bL 1 _ rfl
      have l2 := blk_cell bL 2 _ rfl
      cases t3 with
      | false =>
        have HN : Hid (¬ OffOk x) := fun h => by have h := h.2.2.2.1 k hlt; rw [← HSD.out, ← HLL.out] at h; have := HT3.out.2 h.2.2; cases this
        go_wp2
        go_ret
        exact ⟨says_no HN.out, hbw⟩
      | true =>
      have HP3 : Hid (SeatsOk s.most l.sen l.se) := HT3.out.1 rfl
      clear HT3
      have HLO : Hid (LoadOk (x.sa k) (x.ld k)) := by show LoadOk (x.sa k) (x.ld k); rw [← HSD.out, ← HLL.out]; exact ⟨HP1.out, HP2.out, HP3.out⟩
      clear s6 s7 l1 l2
      go_wp2
      go_roundw
      case rel => exact ⟨k + 1, by omega, by go_num, fun j hj => by
        by_cases e : j = k
        · subst e; exact HLO.out
        · exact HA.out j (by omega), hbx⟩
      case measure => simp [intOf]; omega
    · obtain rfl : k = x.san := by omega
      have HL1 : Hid (∀ j, j < x.san → LoadOk (x.sa j) (x.ld j)) := HA.out
      have HB1 : Hid (Below V.heap.size V wr) := hbel
      have z2 := blk_cell (blk_below bO1 hbel) 2 _ rfl
      clear HA hbel hbw hk hlt
      go_wp2
      clear z2
      go_loopw [6, 73] (fun _ q wr => ∃ k : Nat, k ≤ x.bkn ∧ q = .int .i64 k ∧ (∀ j, j < k → BookOk x j) ∧ Below V.heap.size V wr) (fun _ q _ => x.bkn - (intOf q).toNat)
      case atStart => exact ⟨0, Nat.zero_le _, rfl, fun j hj => by omega, HB1.out⟩
      case round =>
        obtain ⟨k, hk, rfl, hall, hbel⟩ := hrel
        have HA : Hid (∀ j, j < k → BookOk x j) := hall
        clear hall
        have hbw := after hb1 hbel
        by_cases hlt : k < x.bkn
        · obtain ⟨C, hC, hI⟩ := HBK.out
          obtain ⟨bb, bo, rfl, _⟩ := hC k hlt
          have HCC : Hid (RecsAt wr (some ⟨bb, bo, none⟩) x.bkn 13 C) := hC.below hbw
          have HII : Hid (∀ k, k < x.bkn → Book.Is wr (C k) (x.bk k)) := fun k hk => (hI k hk).below hbw
          have z0 := blk_cell (blk_below bO1 hbel) 0 _ rfl
          have z1 := blk_cell (blk_below bO1 hbel) 1 _ rfl
          have z2 := blk_cell (blk_below bO1 hbel) 2 _ rfl
          clear hC hI
          go_wp2_with fail
          refine (l7Booking_raw x asa ald bb bo csa cld cbk k C _ hlt HSH.out (HSA.out.below hbw) HCC.out HII.out hcb).mono ?_
          rintro e X ⟨⟨t, rfl, ht⟩, hbx⟩
          have HT : Hid (t = true ↔ BookOk x k) := ht
          clear ht z0 z1 z2
          cases t with
          | false =>
            have HN : Hid (¬ OffOk x) := fun h => by have := HT.out.2 (h.2.2.2.2.1 k hlt); cases this
            go_wp2
            go_ret
            exact ⟨says_no HN.out, after hbw hbx⟩
          | true =>
            have HP : Hid (BookOk x k) := HT.out.1 rfl
            clear HT
            go_wp2
            go_roundw
            case rel => exact ⟨k + 1, by omega, by go_num, fun j hj => by
              by_cases e : j = k
              · subst e; exact HP.out
              · exact HA.out j (by omega), after hbel hbx⟩
            case measure => simp [intOf]; omega
        · obtain rfl : k = x.bkn := by omega
          have HL2 : Hid (∀ j, j < x.bkn → BookOk x j) := HA.out
          have HB2 : Hid (Below V.heap.size V wr) := hbel
          have z0 := blk_cell (blk_below bO1 hbel) 0 _ rfl
          clear HA hbel hbw hk hlt HB1
          go_wp2
          clear z0
          go_loopw [7, 8, 9, 10, 11, 12, 14, 84, 95, 96, 97] (fun _ _ _ _ _ _ _ q _ _ _ wr => ∃ k : Nat, k ≤ x.san ∧ q = .int .i64 k ∧ (∀ j, j < k → Tallies x j) ∧ Below V.heap.size V wr) (fun _ _ _ _ _ _ _ q _ _ _ _ => x.san - (intOf q).toNat)
          case atStart => exact ⟨0, Nat.zero_le _, rfl, fun j hj => by omega, HB2.out⟩
          case round =>
            obtain ⟨k, hk, rfl, hall, hbel⟩ := hrel
            have HA : Hid (∀ j, j < k → Tallies x j) := hall
            clear hall
            have hbw := after hb1 hbel
            by_cases hlt : k < x.san
            · obtain ⟨sb, so, la, lc, ca, cc, rfl, f0, f1, f2, f3, f4, f5, f6, f7, hla, hca, sla, sca⟩ := HSA.out k hlt
              obtain ⟨s, hsd⟩ : ∃ s, s = x.sa k := ⟨_, rfl⟩
              rw [← hsd] at f0 f1 f2 f3 f4 f5 f6 f7 hla hca sla sca
              have HSD : Hid (s = x.sa k) := hsd
              have HSS : Hid (ShortS s 1048576) := by rw [hsd]; exact HSH.out.1.2 k hlt
              have lsb := World.block_lt_of_cell? w _ f0
              have c0 : wr.cell? ⟨sb, so + k * 8, none⟩ = some (.int .i64 s.id) := (hbw.cell (p := ⟨sb, so + k * 8, none⟩) lsb).trans f0
              have c1 : wr.cell? ⟨sb, so + k * 8 + 1, none⟩ = some (.string s.fr) := (hbw.cell (p := ⟨sb, so + k * 8 + 1, none⟩) lsb).trans f1
              have c2 : wr.cell? ⟨sb, so + k * 8 + 2, none⟩ = some (.string s.dst) := (hbw.cell (p := ⟨sb, so + k * 8 + 2, none⟩) lsb).trans f2
              have c3 : wr.cell? ⟨sb, so + k * 8 + 3, none⟩ = some (.int .i64 s.dep) := (hbw.cell (p := ⟨sb, so + k * 8 + 3, none⟩) lsb).trans f3
              have c4 : wr.cell? ⟨sb, so + k * 8 + 4, none⟩ = some (.int .i64 s.arr) := (hbw.cell (p := ⟨sb, so + k * 8 + 4, none⟩) lsb).trans f4
              have c5 : wr.cell? ⟨sb, so + k * 8 + 5, none⟩ = some (.slice la s.la.n lc) := (hbw.cell (p := ⟨sb, so + k * 8 + 5, none⟩) lsb).trans f5
              have c6 : wr.cell? ⟨sb, so + k * 8 + 6, none⟩ = some (.slice ca s.ca.n cc) := (hbw.cell (p := ⟨sb, so + k * 8 + 6, none⟩) lsb).trans f6
              have c7 : wr.cell? ⟨sb, so + k * 8 + 7, none⟩ = some (.int .i64 s.most) := (hbw.cell (p := ⟨sb, so + k * 8 + 7, none⟩) lsb).trans f7
              obtain ⟨C, hC, hI⟩ := HLD.out
              obtain ⟨lb, lo, rfl, hc⟩ := hC k (by have := HM1.out; omega)
              obtain ⟨l, hld⟩ : ∃ l, l = x.ld k := ⟨_, rfl⟩
              obtain ⟨ast, cst, aro, cro, ase, cse, eC, hst, sst, hro, sro, hse, sse⟩ := hI k (by have := HM1.out; omega)
              rw [← hld] at eC hst sst hro sro hse sse
              have HLL : Hid (l = x.ld k) := hld
              have HLS : Hid (Load.Short l 1048576) := by rw [hld]; exact HSH.out.2.1.2 k (by have := HM1.out; omega)
              have llb : lb < w.heap.size := World.block_lt_of_cell? w _ (hc 0 (by decide))
              have d0 : ∀ o, (wr.alloc o).cell? ⟨lb, lo + k * 3, none⟩ = some (.slice ast l.stn cst) := fun o => ((hbw.alloc hbw.size o).cell (p := ⟨lb, lo + k * 3, none⟩) llb).trans (by have := hc 0 (by decide); rw [eC] at this; exact this)
              have d1 : ∀ o, (wr.alloc o).cell? ⟨lb, lo + k * 3 + 1, none⟩ = some (.slice aro l.ron cro) := fun o => ((hbw.alloc hbw.size o).cell (p := ⟨lb, lo + k * 3 + 1, none⟩) llb).trans (by have := hc 1 (by decide); rw [eC] at this; exact this)
              have d2 : ∀ o, (wr.alloc o).cell? ⟨lb, lo + k * 3 + 2, none⟩ = some (.slice ase l.sen cse) := fun o => ((hbw.alloc hbw.size o).cell (p := ⟨lb, lo + k * 3 + 2, none⟩) llb).trans (by have := hc 2 (by decide); rw [eC] at this; exact this)
              have HLA : Hid (PairsAt w la s.la) := hla
              have HCA : Hid (PairsAt w ca s.ca) := hca
              have HST : Hid (StaysAt w ast l.stn l.st) := hst
              have HRO : Hid (RoomsAt w aro l.ron l.ro) := hro
              have HSE : Hid (SeatsAt w ase l.sen l.se) := hse
              have q1 : l.stn ≤ cst := sst.1
              have q2 : l.ron ≤ cro := sro.1
              have q3 : l.sen ≤ cse := sse.1
              clear hC hI hc eC hsd hld f0 f1 f2 f3 f4 f5 f6 f7 hla hca sla sca hst sst hro sro hse sse
              have HLO := HL1.out k hlt
              rw [← HSD.out, ← HLL.out] at HLO
              have HCB : Hid (∀ j, j < l.ron → 0 ≤ (l.ro j).cab ∧ (l.ro j).cab < s.ca.n) := fun j hj => rooms_cab HLO.2.1 j hj
              clear HLO
              have hk0 : (0 : Int) ≤ (k : Int) := by omega
              have hk1 : (k : Int) < (x.ldn : Int) := by have := HM1.out; omega
              have z1 : ∀ o, (wr.alloc o).cell? ⟨w.heap.size, 1, none⟩ = some (.slice (some ⟨lb, lo, none⟩) x.ldn cld) := fun o => blk_cell (blk_alloc (blk_below bO1 hbel) o) 1 _ rfl
              have z2 : ∀ o p, ((wr.alloc o).alloc p).cell? ⟨w.heap.size, 2, none⟩ = some (.slice abk x.bkn cbk) := fun o p => blk_cell (blk_alloc (blk_alloc (blk_below bO1 hbel) o) p) 2 _ rfl
              go_wp2
              have hbx : Below V.heap.size V ((wr.alloc (.cells #[.int .i64 s.id, .string s.fr, .string s.dst, .int .i64 s.dep, .int .i64 s.arr, .slice la s.la.n lc, .slice ca s.ca.n cc, .int .i64 s.most] 59)).alloc (.cells #[.slice ast l.stn cst, .slice aro l.ron cro, .slice ase l.sen cse] 64)) := (hbel.alloc hbel.size _).alloc (by have := hbel.size; simp; omega) _
              have bS : ((wr.alloc (.cells #[.int .i64 s.id, .string s.fr, .string s.dst, .int .i64 s.dep, .int .i64 s.arr, .slice la s.la.n lc, .slice ca s.ca.n cc, .int .i64 s.most] 59)).alloc (.cells #[.slice ast l.stn cst, .slice aro l.ron cro, .slice ase l.sen cse] 64)).heap[wr.heap.size]? = some (.cells #[.int .i64 s.id, .string s.fr, .string s.dst, .int .i64 s.dep, .int .i64 s.arr, .slice la s.la.n lc, .slice ca s.ca.n cc, .int .i64 s.most] 59 (0, 0)) := blk_alloc (heap_alloc_new wr _) _
              have bL : ((wr.alloc (.cells #[.int .i64 s.id, .string s.fr, .string s.dst, .int .i64 s.dep, .int .i64 s.arr, .slice la s.la.n lc, .slice ca s.ca.n cc, .int .i64 s.most] 59)).alloc (.cells #[.slice ast l.stn cst, .slice aro l.ron cro, .slice ase l.sen cse] 64)).heap[wr.heap.size + 1]? = some (.cells #[.slice ast l.stn cst, .slice aro l.ron cro, .slice ase l.sen cse] 64 (0, 0)) := by simpa using heap_alloc_new (wr.alloc _) _
              generalize ((wr.alloc (.cells #[.int .i64 s.id, .string s.fr, .string s.dst, .int .i64 s.dep, .int .i64 s.arr, .slice la s.la.n lc, .slice ca s.ca.n cc, .int .i64 s.most] 59)).alloc (.cells #[.slice ast l.stn cst, .slice aro l.ron cro, .slice ase l.sen cse] 64)) = X at hbx bS bL ⊢
              generalize wr.heap.size = sbx at bS bL ⊢
              clear c0 c1 c2 c3 c4 c5 c6 c7 d0 d1 d2 z1 z2 hbw hbel
              go_loopw [10, 11, 12, 14, 97] (fun v10 v11 v12 _ q wq => ∃ (i : Nat), i ≤ x.bkn ∧ q = .int .i64 i ∧ v10 = .int .i64 (cnt (fun i => On x k i ∧ 0 < (x.bk i).len) i : Nat) ∧ v11 = .int .i64 (cnt (fun i => On x k i ∧ 0 < (x.bk i).cl) i : Nat) ∧ v12 = .int .i64 (cnt (On x k) i : Nat) ∧ (∀ j, j < i → On x k j → StandsB s l (x.bk j)) ∧ Below X.heap.size X wq) (fun _ _ _ _ q _ => x.bkn - (intOf q).toNat)
              case atStart => exact ⟨0, Nat.zero_le _, rfl, rfl, rfl, rfl, fun j hj => by omega, Below.refl _ _⟩
              case round =>
                obtain ⟨i, hi, rfl, rfl, rfl, rfl, hall, hbel⟩ := hrel
                have HW : Hid (∀ j, j < i → On x k j → StandsB s l (x.bk j)) := hall
                clear hall
                have hbw := after (after hb1 hbx) hbel
                obtain ⟨m0, hm0⟩ : ∃ m, m = cnt (fun i => On x k i ∧ 0 < (x.bk i).len) i := ⟨_, rfl⟩
                have hml0 : m0 ≤ i := by rw [hm0]; exact cnt_le _ _
                have HM0 : Hid (m0 = cnt (fun i => On x k i ∧ 0 < (x.bk i).len) i) := hm0
                rw [← hm0]
                clear hm0
                obtain ⟨m1, hm1⟩ : ∃ m, m = cnt (fun i => On x k i ∧ 0 < (x.bk i).cl) i := ⟨_, rfl⟩
                have hml1 : m1 ≤ i := by rw [hm1]; exact cnt_le _ _
                have HM1 : Hid (m1 = cnt (fun i => On x k i ∧ 0 < (x.bk i).cl) i) := hm1
                rw [← hm1]
                clear hm1
                obtain ⟨m2, hm2⟩ : ∃ m, m = cnt (On x k) i := ⟨_, rfl⟩
                have hml2 : m2 ≤ i := by rw [hm2]; exact cnt_le _ _
                have HM2 : Hid (m2 = cnt (On x k) i) := hm2
                rw [← hm2]
                clear hm2
                by_cases hlt2 : i < x.bkn
                · obtain ⟨C, hC, hI⟩ := HBK.out
                  obtain ⟨bb, bo, rfl, hc⟩ := hC i hlt2
                  obtain ⟨alg, clg, eC, hlg, slg⟩ := hI i hlt2
                  obtain ⟨b, hb⟩ : ∃ b, b = x.bk i := ⟨_, rfl⟩
                  rw [← hb] at eC hlg slg
                  have HBB : Hid (b = x.bk i) := hb
                  have HLG : Hid (IntsAt w alg b.lgn b.lg) := hlg
                  have HBS : Hid (Book.Short b 1048576) := by rw [hb]; exact HSH.out.2.2.2 i hlt2
                  have lbb : bb < w.heap.size := World.block_lt_of_cell? w _ (hc 0 (by decide))
                  have c0 : wr.cell? ⟨bb, bo + i * 13, none⟩ = some (.int .i64 b.name) := (hbw.cell (p := ⟨bb, bo + i * 13, none⟩) lbb).trans (by have := hc 0 (by decide); rw [eC] at this; exact this)
                  have c1 : wr.cell? ⟨bb, bo + i * 13 + 1, none⟩ = some (.int .i64 b.who) := (hbw.cell (p := ⟨bb, bo + i * 13 + 1, none⟩) lbb).trans (by have := hc 1 (by decide); rw [eC] at this; exact this)
                  have c2 : wr.cell? ⟨bb, bo + i * 13 + 2, none⟩ = some (.string b.own) := (hbw.cell (p := ⟨bb, bo + i * 13 + 2, none⟩) lbb).trans (by have := hc 2 (by decide); rw [eC] at this; exact this)
                  have c3 : wr.cell? ⟨bb, bo + i * 13 + 3, none⟩ = some (.slice alg b.lgn clg) := (hbw.cell (p := ⟨bb, bo + i * 13 + 3, none⟩) lbb).trans (by have := hc 3 (by decide); rw [eC] at this; exact this)
                  have c4 : wr.cell? ⟨bb, bo + i * 13 + 4, none⟩ = some (.int .i64 b.pe) := (hbw.cell (p := ⟨bb, bo + i * 13 + 4, none⟩) lbb).trans (by have := hc 4 (by decide); rw [eC] at this; exact this)
                  have c5 : wr.cell? ⟨bb, bo + i * 13 + 5, none⟩ = some (.int .i64 b.len) := (hbw.cell (p := ⟨bb, bo + i * 13 + 5, none⟩) lbb).trans (by have := hc 5 (by decide); rw [eC] at this; exact this)
                  have c6 : wr.cell? ⟨bb, bo + i * 13 + 6, none⟩ = some (.int .i64 b.hei) := (hbw.cell (p := ⟨bb, bo + i * 13 + 6, none⟩) lbb).trans (by have := hc 6 (by decide); rw [eC] at this; exact this)
                  have c7 : wr.cell? ⟨bb, bo + i * 13 + 7, none⟩ = some (.int .i64 b.cl) := (hbw.cell (p := ⟨bb, bo + i * 13 + 7, none⟩) lbb).trans (by have := hc 7 (by decide); rw [eC] at this; exact this)
                  have c8 : wr.cell? ⟨bb, bo + i * 13 + 8, none⟩ = some (.bool b.all) := (hbw.cell (p := ⟨bb, bo + i * 13 + 8, none⟩) lbb).trans (by have := hc 8 (by decide); rw [eC] at this; exact this)
                  have c9 : wr.cell? ⟨bb, bo + i * 13 + 9, none⟩ = some (.int .i64 b.be) := (hbw.cell (p := ⟨bb, bo + i * 13 + 9, none⟩) lbb).trans (by have := hc 9 (by decide); rw [eC] at this; exact this)
                  have c10 : wr.cell? ⟨bb, bo + i * 13 + 10, none⟩ = some (.int .i64 b.state) := (hbw.cell (p := ⟨bb, bo + i * 13 + 10, none⟩) lbb).trans (by have := hc 10 (by decide); rw [eC] at this; exact this)
                  have c11 : wr.cell? ⟨bb, bo + i * 13 + 11, none⟩ = some (.int .i64 b.unt) := (hbw.cell (p := ⟨bb, bo + i * 13 + 11, none⟩) lbb).trans (by have := hc 11 (by decide); rw [eC] at this; exact this)
                  have c12 : wr.cell? ⟨bb, bo + i * 13 + 12, none⟩ = some (.int .i64 b.price) := (hbw.cell (p := ⟨bb, bo + i * 13 + 12, none⟩) lbb).trans (by have := hc 12 (by decide); rw [eC] at this; exact this)
                  clear hC hI hc eC hb hlg slg
                  go_wp2_with fail
                  have bB := heap_alloc_new wr (.cells #[.int .i64 b.name, .int .i64 b.who, .string b.own, .slice alg b.lgn clg, .int .i64 b.pe, .int .i64 b.len, .int .i64 b.hei, .int .i64 b.cl, .bool b.all, .int .i64 b.be, .int .i64 b.state, .int .i64 b.unt, .int .i64 b.price] 87)
                  have hbq : Below X.heap.size X (wr.alloc (.cells #[.int .i64 b.name, .int .i64 b.who, .string b.own, .slice alg b.lgn clg, .int .i64 b.pe, .int .i64 b.len, .int .i64 b.hei, .int .i64 b.cl, .bool b.all, .int .i64 b.be, .int .i64 b.state, .int .i64 b.unt, .int .i64 b.price] 87)) := push hbel _
                  generalize wr.alloc (.cells #[.int .i64 b.name, .int .i64 b.who, .string b.own, .slice alg b.lgn clg, .int .i64 b.pe, .int .i64 b.len, .int .i64 b.hei, .int .i64 b.cl, .bool b.all, .int .i64 b.be, .int .i64 b.state, .int .i64 b.unt, .int .i64 b.price] 87) = Y at bB hbq ⊢
                  generalize wr.heap.size = bbx at bB ⊢
                  clear c0 c1 c2 c3 c4 c5 c6 c7 c8 c9 c10 c11 c12 hbel hbw
                  refine (l7Live_any b alg clg _).mono ?_
                  rintro e Y1 ⟨rfl, hby⟩
                  have bB1 := blk_below bB hby
                  have hbq1 := after hbq hby
                  clear bB hbq hby
                  obtain ⟨t1, ht1⟩ : ∃ t, t = decide (Live b) := ⟨_, rfl⟩
                  rw [← ht1]
                  have HT1 : Hid (t1 = true ↔ Live b) := by show t1 = true ↔ Live b; rw [ht1, decide_eq_true_eq]
                  clear ht1
                  cases t1 with
                  | false =>
                    have HN : Hid (¬ On x k i) := fun h => by unfold On at h; rw [← HBB.out, ← HSD.out] at h; have := HT1.out.2 h.1; cases this
                    go_wp2
                    go_roundw
                    case rel => exact ⟨i + 1, by omega, by go_num, by rw [cnt_no (fun h => HN.out h.1), ← HM0.out], by rw [cnt_no (fun h => HN.out h.1), ← HM1.out], by rw [cnt_no HN.out, ← HM2.out], fun j hj ho => by
                      by_cases e : j = i
                      · subst e; exact absurd ho HN.out
                      · exact HW.out j (by omega) ho, hbq1⟩
                    case measure => simp [intOf]; omega
                  | true =>
                    have HLV : Hid (Live b) := HT1.out.1 rfl
                    clear HT1
                    have y3 := blk_cell bB1 3 _ rfl
                    have s0 := blk_cell (blk_below bS hbq1) 0 _ rfl
                    go_wp2_with fail
                    refine (l1Has_any alg b.lgn clg b.lg s.id _ HBS.out.2 (HLG.out.below (after (after hb1 hbx) hbq1))).mono ?_
                    rintro e Y2 ⟨⟨t2, rfl, ht2⟩, hw2⟩
                    have hw2 := hw2.symm
                    subst hw2
                    have HT2 : Hid (t2 = true ↔ HasLeg b s.id) := ht2
                    clear ht2 y3 s0
                    cases t2 with
                    | false =>
                      have HN : Hid (¬ On x k i) := fun h => by unfold On at h; rw [← HBB.out, ← HSD.out] at h; have := HT2.out.2 h.2; cases this
                      go_wp2
                      go_roundw
                      case rel => exact ⟨i + 1, by omega, by go_num, by rw [cnt_no (fun h => HN.out h.1), ← HM0.out], by rw [cnt_no (fun h => HN.out h.1), ← HM1.out], by rw [cnt_no HN.out, ← HM2.out], fun j hj ho => by
                        by_cases e : j = i
                        · subst e; exact absurd ho HN.out
                        · exact HW.out j (by omega) ho, hbq1⟩
                      case measure => simp [intOf]; omega
                    | true =>
                      have HON : Hid (On x k i) := by show On x k i; unfold On; rw [← HBB.out, ← HSD.out]; exact ⟨HLV.out, HT2.out.1 rfl⟩
                      clear HT2 HLV
                      have y0 := blk_cell bB1 0 _ rfl
                      have y1 := blk_cell bB1 1 _ rfl
                      have y2 := blk_cell bB1 2 _ rfl
                      have y3 := blk_cell bB1 3 _ rfl
                      have y4 := blk_cell bB1 4 _ rfl
                      have y5 := blk_cell bB1 5 _ rfl
                      have y6 := blk_cell bB1 6 _ rfl
                      have y7 := blk_cell bB1 7 _ rfl
                      have y8 := blk_cell bB1 8 _ rfl
                      have y9 := blk_cell bB1 9 _ rfl
                      have y10 := blk_cell bB1 10 _ rfl
                      have y11 := blk_cell bB1 11 _ rfl
                      have y12 := blk_cell bB1 12 _ rfl
                      have s0 := blk_cell (blk_below bS hbq1) 0 _ rfl
                      have s1 := blk_cell (blk_below bS hbq1) 1 _ rfl
                      have s2 := blk_cell (blk_below bS hbq1) 2 _ rfl
                      have s3 := blk_cell (blk_below bS hbq1) 3 _ rfl
                      have s4 := blk_cell (blk_below bS hbq1) 4 _ rfl
                      have s5 := blk_cell (blk_below bS hbq1) 5 _ rfl
                      have s6 := blk_cell (blk_below bS hbq1) 6 _ rfl
                      have s7 := blk_cell (blk_below bS hbq1) 7 _ rfl
                      have l0 := blk_cell (blk_below bL hbq1) 0 _ rfl
                      have l1 := blk_cell (blk_below bL hbq1) 1 _ rfl
                      have l2 := blk_cell (blk_below bL hbq1) 2 _ rfl
                      have hbz := after (after hb1 hbx) hbq1
                      go_wp2_with fail
                      refine (l7Stands_any s la ca lc cc l ast aro ase cst cro cse b alg clg _ HLS.out.1 HLS.out.2.1 HLS.out.2.2 (HCA.out.below hbz) (HST.out.below hbz) (HRO.out.below hbz) (HSE.out.below hbz) HCB.out).mono ?_
                      rintro e Y3 ⟨⟨t3, rfl, ht3⟩, hby⟩
                      have HT3 : Hid (t3 = true ↔ StandsB s l b) := ht3
                      have bB2 := blk_below bB1 hby
                      have hbq2 := after hbq1 hby
                      clear ht3 y0 y1 y2 y3 y4 y5 y6 y7 y8 y9 y10 y11 y12 s0 s1 s2 s3 s4 s5 s6 s7 l0 l1 l2 bB1 hbq1 hby hbz
                      cases t3 with
                      | false =>
                        have HN : Hid (¬ OffOk x) := fun h => by have h := (h.2.2.2.2.2 k hlt).1 i hlt2 HON.out; rw [← HBB.out, ← HSD.out, ← HLL.out] at h; have := HT3.out.2 h; cases this
                        go_wp2
                        go_ret
                        exact ⟨says_no HN.out, after (after hb1 hbx) hbq2⟩
                      | true =>
                        have HST3 : Hid (StandsB s l (x.bk i)) := by show StandsB s l (x.bk i); rw [← HBB.out]; exact HT3.out.1 rfl
                        clear HT3
                        have y5 := blk_cell bB2 5 _ rfl
                        have y7 := blk_cell bB2 7 _ rfl
                        have hwm0 : IntKind.i64.wrap ((m0 : Int) + 1) = (m0 : Int) + 1 := by rw [IntKind.wrap_i64]; omega
                        have hwm1 : IntKind.i64.wrap ((m1 : Int) + 1) = (m1 : Int) + 1 := by rw [IntKind.wrap_i64]; omega
                        have hwm2 : IntKind.i64.wrap ((m2 : Int) + 1) = (m2 : Int) + 1 := by rw [IntKind.wrap_i64]; omega
                        by_cases u1 : 0 < b.len
                        · have u1' : decide (0 < b.len) = true := decide_eq_true u1
                          have HU1 : Hid (0 < b.len) := u1
                          clear u1
                          by_cases u2 : 0 < b.cl
                          · have u2' : decide (0 < b.cl) = true := decide_eq_true u2
                            have HU2 : Hid (0 < b.cl) := u2
                            clear u2
                            go_wp2
                            go_roundw
                            case rel => exact ⟨i + 1, by omega, by go_num, by rw [cnt_yes ⟨HON.out, by rw [← HBB.out]; exact HU1.out⟩, ← HM0.out]; simp, by rw [cnt_yes ⟨HON.out, by rw [← HBB.out]; exact HU2.out⟩, ← HM1.out]; simp, by rw [cnt_yes HON.out, ← HM2.out]; simp, fun j hj ho => by
                              by_cases e : j = i
                              · subst e; exact HST3.out
                              · exact HW.out j (by omega) ho, hbq2⟩
                            case measure => simp [intOf]; omega
                          · have u2' : decide (0 < b.cl) = false := decide_eq_false u2
                            have HU2 : Hid (¬ 0 < b.cl) := u2
                            clear u2
                            go_wp2
                            go_roundw
                            case rel => exact ⟨i + 1, by omega, by go_num, by rw [cnt_yes ⟨HON.out, by rw [← HBB.out]; exact HU1.out⟩, ← HM0.out]; simp, by rw [cnt_no (fun h => by have h1 := h.2; rw [← HBB.out] at h1; have h2 := HU2.out; omega), ← HM1.out], by rw [cnt_yes HON.out, ← HM2.out]; simp, fun j hj ho => by
                              by_cases e : j = i
                              · subst e; exact HST3.out
                              · exact HW.out j (by omega) ho, hbq2⟩
                            case measure => simp [intOf]; omega
                        · have u1' : decide (0 < b.len) = false := decide_eq_false u1
                          have HU1 : Hid (¬ 0 < b.len) := u1
                          clear u1
                          by_cases u2 : 0 < b.cl
                          · have u2' : decide (0 < b.cl) = true := decide_eq_true u2
                            have HU2 : Hid (0 < b.cl) := u2
                            clear u2
                            go_wp2
                            go_roundw
                            case rel => exact ⟨i + 1, by omega, by go_num, by rw [cnt_no (fun h => by have h1 := h.2; rw [← HBB.out] at h1; have h2 := HU1.out; omega), ← HM0.out], by rw [cnt_yes ⟨HON.out, by rw [← HBB.out]; exact HU2.out⟩, ← HM1.out]; simp, by rw [cnt_yes HON.out, ← HM2.out]; simp, fun j hj ho => by
                              by_cases e : j = i
                              · subst e; exact HST3.out
                              · exact HW.out j (by omega) ho, hbq2⟩
                            case measure => simp [intOf]; omega
                          · have u2' : decide (0 < b.cl) = false := decide_eq_false u2
                            have HU2 : Hid (¬ 0 < b.cl) := u2
                            clear u2
                            go_wp2
                            go_roundw
                            case rel => exact ⟨i + 1, by omega, by go_num, by rw [cnt_no (fun h => by have h1 := h.2; rw [← HBB.out] at h1; have h2 := HU1.out; omega), ← HM0.out], by rw [cnt_no (fun h => by have h1 := h.2; rw [← HBB.out] at h1; have h2 := HU2.out; omega), ← HM1.out], by rw [cnt_yes HON.out, ← HM2.out]; simp, fun j hj ho => by
                              by_cases e : j = i
                              · subst e; exact HST3.out
                              · exact HW.out j (by omega) ho, hbq2⟩
                            case measure => simp [intOf]; omega
                · obtain rfl : i = x.bkn := by omega
                  have l0 := blk_cell (blk_below bL hbel) 0 _ rfl
                  have l1 := blk_cell (blk_below bL hbel) 1 _ rfl
                  have l2 := blk_cell (blk_below bL hbel) 2 _ rfl
                  have HTL : Hid (Tallies x k ↔ l.stn = m0 ∧ l.ron = m1 ∧ l.sen = m2) := by
                    show Tallies x k ↔ l.stn = m0 ∧ l.ron = m1 ∧ l.sen = m2
                    unfold Tallies
                    rw [← HSD.out, ← HLL.out, HM0.out, HM1.out, HM2.out]
                    exact ⟨fun h => h.2, fun h => ⟨HW.out, h⟩⟩
                  have HBQ : Hid (Below V.heap.size V wr) := after hbx hbel
                  clear hbel HM0 HM1 HM2 HW
                  by_cases v1 : l.stn = m0
                  case neg =>
                    have e1 : ((l.stn : Int) != (m0 : Int)) = true := by simp; omega
                    have HN : Hid (¬ OffOk x) := fun h => v1 (HTL.out.1 (h.2.2.2.2.2 k hlt)).1
                    clear v1
                    go_wp2
                    go_ret
                    exact ⟨says_no HN.out, after hb1 HBQ.out⟩
                  have e1 : ((l.stn : Int) != (m0 : Int)) = false := by simp; omega
                  by_cases v2 : l.ron = m1
                  case neg =>
                    have e2 : ((l.ron : Int) != (m1 : Int)) = true := by simp; omega
                    have HN : Hid (¬ OffOk x) := fun h => v2 (HTL.out.1 (h.2.2.2.2.2 k hlt)).2.1
                    clear v1 v2
                    go_wp2
                    go_ret
                    exact ⟨says_no HN.out, after hb1 HBQ.out⟩
                  have e2 : ((l.ron : Int) != (m1 : Int)) = false := by simp; omega
                  by_cases v3 : l.sen = m2
                  case neg =>
                    have e3 : ((l.sen : Int) != (m2 : Int)) = true := by simp; omega
                    have HN : Hid (¬ OffOk x) := fun h => v3 (HTL.out.1 (h.2.2.2.2.2 k hlt)).2.2
                    clear v1 v2 v3
                    go_wp2
                    go_ret
                    exact ⟨says_no HN.out, after hb1 HBQ.out⟩
                  have e3 : ((l.sen : Int) != (m2 : Int)) = false := by simp; omega
                  have HTY : Hid (Tallies x k) := HTL.out.2 ⟨v1, v2, v3⟩
                  clear v1 v2 v3 HTL
                  go_wp2
                  go_roundw
                  case rel => exact ⟨k + 1, by omega, by go_num, fun j hj => by
                    by_cases e : j = k
                    · subst e; exact HTY.out
                    · exact HA.out j (by omega), HBQ.out⟩
                  case measure => simp [intOf]; omega
            · obtain rfl : k = x.san := by omega
              have HY : Hid (OffOk x) := ⟨HTAB.out, HM1.out, HM2.out, HL1.out, HL2.out, HA.out⟩
              clear HA
              go_wp2
              go_ret
              exact ⟨says_yes HY.out, hbw⟩

open Classical in
noncomputable instance (x : Off) : Decidable (OffOk x) := propDecidable _
theorem says_decide {P : Prop} [Decidable P] {e : Ending} (h : SaysIf P e) : e = .returned (.bool (decide P)) := by
  obtain ⟨b, rfl, hb⟩ := h
  congr 2
  rw [Bool.eq_iff_iff, hb, decide_eq_true_eq]
theorem specOffice_any (cs : List Value) (x : Off) (w : World) (hs : Off.Short x 1048576) (h : Off.Is w cs x) :
    Calls Tryz.prog 22 #[.agg cs.toArray] w fun e w' => e = .returned (.bool (decide (OffOk x))) ∧ Below w.heap.size w w' := by
  obtain ⟨asa, csa, ald, cld, abk, cbk, rfl, h1, s1, h2, s2, h3, s3⟩ := h
  exact (specOff_raw x asa ald abk csa cld cbk w hs h1 h2 h3 s3.1).mono fun _ _ ⟨a, b⟩ => ⟨says_decide a, b⟩

end Go.Proofs.YtaopapjnhlombaaGreat

namespace Go.Proofs.YtaopapjnhlombaaGreat
open Go.RowKit

/-- What RoomLeft answers. -/
def LeftAns (x : Off) (z : Int) (base ti : Nat) (e : Ending) (w : World) : Prop :=
  (∃ k v1 v2, OffOk x ∧ k < x.san ∧ findIx x.sa z x.san = k ∧ e = .returned (.tuple #[v1, v2, .int .i64 ((x.sa k).most - sits (x.ld k).se (x.ld k).sen), .bool true]) ∧
    w.ownsRow base ti 1 v1 (x.sa k).la.n (intList (left (x.sa k).la (x.ld k).st (x.ld k).stn) (x.sa k).la.n) ∧ w.ownsRow base ti 1 v2 (x.sa k).ca.n (intList (leftR (x.sa k).ca (x.ld k).ro (x.ld k).ron) (x.sa k).ca.n)) ∨
  (¬ (OffOk x ∧ findIx x.sa z x.san < x.san) ∧ e = .returned (.tuple #[.slice none 0 0, .slice none 0 0, .int .i64 0, .bool false]))

set_option maxHeartbeats 12800000 in
set_option maxRecDepth 100000 in
theorem specLeft_raw (x : Off) (asa ald abk : Option Addr) (csa cld cbk : Nat) (z : Int) (w : World) (hs : Off.Short x 1048576) (hsa : SailsAt w asa x.san x.sa) (hld : LoadsAt w ald x.ldn x.ld) (hbk : BooksAt w abk x.bkn x.bk) (hcb : x.bkn ≤ cbk) :
    Calls Tryz.prog 6 #[.agg #[.slice asa x.san csa, .slice ald x.ldn cld, .slice abk x.bkn cbk], .int .i64 z] w fun e w' => LeftAns x z w.heap.size 3 e w' ∧ Below w.heap.size w w' := by
  have HSA : Hid (SailsAt w asa x.san x.sa) := hsa
  have HLD : Hid (LoadsAt w ald x.ldn x.ld) := hld
  have HBK : Hid (BooksAt w abk x.bkn x.bk) := hbk
  have HSH : Hid (Off.Short x 1048576) := hs
  have n1 : x.san ≤ 1048576 := hs.1.1
  clear hsa hld hbk hs
  have hb0 : Below w.heap.size w (w.alloc (.cells #[.slice asa x.san csa, .slice ald x.ldn cld, .slice abk x.bkn cbk] 35)) := push (Below.refl _ _) _
  have bO := heap_alloc_new w (.cells #[.slice asa x.san csa, .slice ald x.ldn cld, .slice abk x.bkn cbk] 35)
  go_enter Tryz.func6, Tryz.ntmps6
  go_wp2_with fail
  generalize w.alloc (.cells #[.slice asa x.san csa, .slice ald x.ldn cld, .slice abk x.bkn cbk] 35) = V0 at hb0 bO ⊢
  refine (specOff_raw x asa ald abk csa cld cbk _ HSH.out (HSA.out.below hb0) (HLD.out.below hb0) (HBK.out.below hb0) hcb).mono ?_
  rintro e V ⟨⟨t0, rfl, ht0⟩, hbv⟩
  have HT0 : Hid (t0 = true ↔ OffOk x) := ht0
  have bO1 := blk_below bO hbv
  have hb1 := after hb0 hbv
  clear ht0 hb0 bO hbv V0
  have z0 := blk_cell bO1 0 _ rfl
  cases t0 with
  | false =>
    have HN : Hid (¬ (OffOk x ∧ findIx x.sa z x.san < x.san)) := fun h => by have := HT0.out.2 h.1; cases this
    go_wp2
    exact bodyPost_ret (v := .tuple #[.slice none 0 0, .slice none 0 0, .int .i64 0, .bool false]) (by simp [results, Tryz.results6, go_sem]) rfl ⟨.inr ⟨HN.out, rfl⟩, hb1⟩
  | true =>
  have HOK : Hid (OffOk x) := HT0.out.1 rfl
  clear HT0
  go_wp2_with fail
  refine (l3At_any asa x.san csa x.sa z _ n1 (HSA.out.below hb1)).mono ?_
  rintro e V2 ⟨he, hbv⟩
  have bO2 := blk_below bO1 hbv
  have hb2 := after hb1 hbv
  clear z0 bO1 hb1 hbv
  have z0 := blk_cell bO2 0 _ rfl
  rcases he with ⟨hk, rfl⟩ | ⟨hk, rfl⟩
  case inr =>
    have HN : Hid (¬ (OffOk x ∧ findIx x.sa z x.san < x.san)) := fun h => by have := h.2; omega
    clear hk
    go_wp2
    exact bodyPost_ret (v := .tuple #[.slice none 0 0, .slice none 0 0, .int .i64 0, .bool false]) (by simp [results, Tryz.results6, go_sem]) rfl ⟨.inr ⟨HN.out, rfl⟩, hb2⟩
  have HK1 : Hid (∃ k, findIx x.sa z x.san = k) := ⟨_, rfl⟩
  obtain ⟨k, hkd⟩ := HK1.out
  have HKD : Hid (findIx x.sa z x.san = k) := hkd
  rw [hkd] at hk
  rw [hkd]
  clear hkd HK1
  have e0 : decide ((k : Int) < 0) = false := by simp
  have hlt := hk
  go_wp2_with fail
  refine (l3At_any asa x.san csa x.sa z _ n1 (HSA.out.below hb2)).mono ?_
  rintro e V3 ⟨he, hbv⟩
  have he2 : e = .returned (.int .i64 k) := by
    rw [HKD.out] at he
    rcases he with ⟨_, rfl⟩ | ⟨h, _⟩
    · rfl
    · omega
  subst he2
  have bO3 := blk_below bO2 hbv
  have hb3 := after hb2 hbv
  clear z0 bO2 hb2 hbv he
  have HM1 : Hid (x.ldn = x.san) := HOK.out.2.1
  obtain ⟨sb, so, la, lc, ca, cc, rfl, f0, f1, f2, f3, f4, f5, f6, f7, hla, hca, sla, sca⟩ := HSA.out k hlt
  obtain ⟨s, hsd⟩ : ∃ s, s = x.sa k := ⟨_, rfl⟩
  rw [← hsd] at f0 f1 f2 f3 f4 f5 f6 f7 hla hca sla sca
  have HSD : Hid (s = x.sa k) := hsd
  have lsb := World.block_lt_of_cell? w _ f0
  have c0 : V3.cell? ⟨sb, so + k * 8, none⟩ = some (.int .i64 s.id) := (hb3.cell (p := ⟨sb, so + k * 8, none⟩) lsb).trans f0
  have c1 : V3.cell? ⟨sb, so + k * 8 + 1, none⟩ = some (.string s.fr) := (hb3.cell (p := ⟨sb, so + k * 8 + 1, none⟩) lsb).trans f1
  have c2 : V3.cell? ⟨sb, so + k * 8 + 2, none⟩ = some (.string s.dst) := (hb3.cell (p := ⟨sb, so + k * 8 + 2, none⟩) lsb).trans f2
  have c3 : V3.cell? ⟨sb, so + k * 8 + 3, none⟩ = some (.int .i64 s.dep) := (hb3.cell (p := ⟨sb, so + k * 8 + 3, none⟩) lsb).trans f3
  have c4 : V3.cell? ⟨sb, so + k * 8 + 4, none⟩ = some (.int .i64 s.arr) := (hb3.cell (p := ⟨sb, so + k * 8 + 4, none⟩) lsb).trans f4
  have c5 : V3.cell? ⟨sb, so + k * 8 + 5, none⟩ = some (.slice la s.la.n lc) := (hb3.cell (p := ⟨sb, so + k * 8 + 5, none⟩) lsb).trans f5
  have c6 : V3.cell? ⟨sb, so + k * 8 + 6, none⟩ = some (.slice ca s.ca.n cc) := (hb3.cell (p := ⟨sb, so + k * 8 + 6, none⟩) lsb).trans f6
  have c7 : V3.cell? ⟨sb, so + k * 8 + 7, none⟩ = some (.int .i64 s.most) := (hb3.cell (p := ⟨sb, so + k * 8 + 7, none⟩) lsb).trans f7
  obtain ⟨C, hC, hI⟩ := HLD.out
  obtain ⟨lb, lo, rfl, hc⟩ := hC k (by have := HM1.out; omega)
  obtain ⟨l, hld⟩ : ∃ l, l = x.ld k := ⟨_, rfl⟩
  obtain ⟨ast, cst, aro, cro, ase, cse, eC, hst, sst, hro, sro, hse, sse⟩ := hI k (by have := HM1.out; omega)
  rw [← hld] at eC hst sst hro sro hse sse
  have HLL : Hid (l = x.ld k) := hld
  have llb : lb < w.heap.size := World.block_lt_of_cell? w _ (hc 0 (by decide))
  have d0 : ∀ o, (V3.alloc o).cell? ⟨lb, lo + k * 3, none⟩ = some (.slice ast l.stn cst) := fun o => ((hb3.alloc hb3.size o).cell (p := ⟨lb, lo + k * 3, none⟩) llb).trans (by have := hc 0 (by decide); rw [eC] at this; exact this)
  have d1 : ∀ o, (V3.alloc o).cell? ⟨lb, lo + k * 3 + 1, none⟩ = some (.slice aro l.ron cro) := fun o => ((hb3.alloc hb3.size o).cell (p := ⟨lb, lo + k * 3 + 1, none⟩) llb).trans (by have := hc 1 (by decide); rw [eC] at this; exact this)
  have d2 : ∀ o, (V3.alloc o).cell? ⟨lb, lo + k * 3 + 2, none⟩ = some (.slice ase l.sen cse) := fun o => ((hb3.alloc hb3.size o).cell (p := ⟨lb, lo + k * 3 + 2, none⟩) llb).trans (by have := hc 2 (by decide); rw [eC] at this; exact this)
  have HLA : Hid (PairsAt w la s.la) := hla
  have HCA : Hid (PairsAt w ca s.ca) := hca
  have HST : Hid (StaysAt w ast l.stn l.st) := hst
  have HRO : Hid (RoomsAt w aro l.ron l.ro) := hro
  have HSE : Hid (SeatsAt w ase l.sen l.se) := hse
  have hok := HOK.out.2.2.2.1 k hlt
  rw [← hsd, ← hld] at hok
  have HP : Hid (LoadOk s l) := hok
  clear hok hC hI hc eC hsd hld f0 f1 f2 f3 f4 f5 f6 f7 hla hca sla sca hst sst hro sro hse sse
  have hk0 : (0 : Int) ≤ (k : Int) := by omega
  have hk1 : (k : Int) < (x.ldn : Int) := by have := HM1.out; omega
  have hk2 : (k : Int) < (x.san : Int) := by omega
  have z0 := blk_cell bO3 0 _ rfl
  have z1 : ∀ o, (V3.alloc o).cell? ⟨w.heap.size, 1, none⟩ = some (.slice (some ⟨lb, lo, none⟩) x.ldn cld) := fun o => blk_cell (blk_alloc bO3 o) 1 _ rfl
  go_upto_region 6 with fail
  have hbx : Below w.heap.size w ((V3.alloc (.cells #[.int .i64 s.id, .string s.fr, .string s.dst, .int .i64 s.dep, .int .i64 s.arr, .slice la s.la.n lc, .slice ca s.ca.n cc, .int .i64 s.most] 59)).alloc (.cells #[.slice ast l.stn cst, .slice aro l.ron cro, .slice ase l.sen cse] 64)) := (hb3.alloc hb3.size _).alloc (by have := hb3.size; simp; omega) _
  have bS : ((V3.alloc (.cells #[.int .i64 s.id, .string s.fr, .string s.dst, .int .i64 s.dep, .int .i64 s.arr, .slice la s.la.n lc, .slice ca s.ca.n cc, .int .i64 s.most] 59)).alloc (.cells #[.slice ast l.stn cst, .slice aro l.ron cro, .slice ase l.sen cse] 64)).heap[V3.heap.size]? = some (.cells #[.int .i64 s.id, .string s.fr, .string s.dst, .int .i64 s.dep, .int .i64 s.arr, .slice la s.la.n lc, .slice ca s.ca.n cc, .int .i64 s.most] 59 (0, 0)) := blk_alloc (heap_alloc_new V3 _) _
  have bL : ((V3.alloc (.cells #[.int .i64 s.id, .string s.fr, .string s.dst, .int .i64 s.dep, .int .i64 s.arr, .slice la s.la.n lc, .slice ca s.ca.n cc, .int .i64 s.most] 59)).alloc (.cells #[.slice ast l.stn cst, .slice aro l.ron cro, .slice ase l.sen cse] 64)).heap[V3.heap.size + 1]? = some (.cells #[.slice ast l.stn cst, .slice aro l.ron cro, .slice ase l.sen cse] 64 (0, 0)) := by simpa using heap_alloc_new (V3.alloc _) _
  generalize ((V3.alloc (.cells #[.int .i64 s.id, .string s.fr, .string s.dst, .int .i64 s.dep, .int .i64 s.arr, .slice la s.la.n lc, .slice ca s.ca.n cc, .int .i64 s.most] 59)).alloc (.cells #[.slice ast l.stn cst, .slice aro l.ron cro, .slice ase l.sen cse] 64)) = X at hbx bS bL ⊢
  generalize V3.heap.size = B at bS bL ⊢
  clear c0 c1 c2 c3 c4 c5 c6 c7 d0 d1 d2 z0 z1 hb3 bO3 V3 hk0 hk1 hk2
  have BW : Hid (∀ w', Below X.heap.size X w' → Below w.heap.size w w') := fun w' h => after hbx h
  have KS : Hid (∀ w', Below X.heap.size X w' → (w'.cell? ⟨B, 5, none⟩ = some (.slice la s.la.n lc) ∧ w'.cell? ⟨B, 6, none⟩ = some (.slice ca s.ca.n cc) ∧ w'.cell? ⟨B, 7, none⟩ = some (.int .i64 s.most) ∧
      w'.cell? ⟨B + 1, 0, none⟩ = some (.slice ast l.stn cst) ∧ w'.cell? ⟨B + 1, 1, none⟩ = some (.slice aro l.ron cro) ∧ w'.cell? ⟨B + 1, 2, none⟩ = some (.slice ase l.sen cse))) := fun w' h => by
    have g1 := blk_below bS h
    have g2 := blk_below bL h
    exact ⟨blk_cell g1 5 _ rfl, blk_cell g1 6 _ rfl, blk_cell g1 7 _ rfl, blk_cell g2 0 _ rfl, blk_cell g2 1 _ rfl, blk_cell g2 2 _ rfl⟩
  have HC1 : Hid (∀ w', Below w.heap.size w w' → Calls Tryz.prog 24 #[.slice la s.la.n lc, .slice ast l.stn cst] w' fun e w2 => (∃ v, e = .returned v ∧ w2.ownsRow w.heap.size 3 1 v s.la.n (intList (left s.la l.st l.stn) s.la.n)) ∧ Below w'.heap.size w' w2) := fun w' h =>
    (l4Free_any la ast s.la.n lc l.stn cst s.la l.st w' rfl HP.out.1.1 HP.out.1.2.1 (fun j hj => (HP.out.1.2.2.1 j hj).2.2.1) (HLA.out.below h) (HST.out.below h)).mono fun _ _ ⟨⟨v, a, b⟩, c⟩ => ⟨⟨v, a, own_base b h.size⟩, c⟩
  have HC2 : Hid (∀ w', Below w.heap.size w w' → Calls Tryz.prog 25 #[.slice ca s.ca.n cc, .slice aro l.ron cro] w' fun e w2 => (∃ v, e = .returned v ∧ w2.ownsRow w.heap.size 3 1 v s.ca.n (intList (leftR s.ca l.ro l.ron) s.ca.n)) ∧ Below w'.heap.size w' w2) := fun w' h =>
    (l5Free_any ca aro s.ca.n cc l.ron cro s.ca l.ro w' rfl HP.out.2.1.1 HP.out.2.1.2.1 HP.out.2.1.manys (HCA.out.below h) (HRO.out.below h)).mono fun _ _ ⟨⟨v, a, b⟩, c⟩ => ⟨⟨v, a, own_base b h.size⟩, c⟩
  have HC3 : Hid (∀ w', Below w.heap.size w w' → Calls Tryz.prog 26 #[.slice ase l.sen cse] w' fun e w2 => e = .returned (.int .i64 (sits l.se l.sen)) ∧ Below w'.heap.size w' w2) := fun w' h =>
    l5Seats_any ase l.sen cse l.se w' HP.out.2.2.2.1 (fun j hj => (HP.out.2.2.2.2.1 j hj).2.2) (HSE.out.below h)
  have hm0 : In s.most 0 500 := HP.out.2.2.1
  have hq0 := sits_bounds l.se l.sen (fun j hj => (HP.out.2.2.2.2.1 j hj).2.2)
  have hq1 : sits l.se l.sen ≤ s.most := HP.out.2.2.2.2.2
  have hwr : IntKind.wrap .i64 (s.most - sits l.se l.sen) = s.most - sits l.se l.sen := by unfold In at hm0; rw [IntKind.wrap_i64]; omega
  have HEND : Hid (∀ v1 v2 W, W.ownsRow w.heap.size 3 1 v1 s.la.n (intList (left s.la l.st l.stn) s.la.n) → W.ownsRow w.heap.size 3 1 v2 s.ca.n (intList (leftR s.ca l.ro l.ron) s.ca.n) → LeftAns x z w.heap.size 3 (.returned (.tuple #[v1, v2, .int .i64 (s.most - sits l.se l.sen), .bool true])) W) := fun v1 v2 W a b => by
    rw [HSD.out, HLL.out] at a b ⊢
    exact .inl ⟨k, v1, v2, HOK.out, hlt, HKD.out, rfl, a, b⟩
  clear hm0 hq0 hq1 bS bL
  go_region_held3 (fun w' => w'.cell? ⟨B, 5, none⟩ = some (.slice la s.la.n lc) ∧ w'.cell? ⟨B, 6, none⟩ = some (.slice ca s.ca.n cc) ∧ w'.cell? ⟨B, 7, none⟩ = some (.int .i64 s.most) ∧
      w'.cell? ⟨B + 1, 0, none⟩ = some (.slice ast l.stn cst) ∧ w'.cell? ⟨B + 1, 1, none⟩ = some (.slice aro l.ron cro) ∧ w'.cell? ⟨B + 1, 2, none⟩ = some (.slice ase l.sen cse))
    ((refine KS.out _ ?_; exact (by repeat (first | exact Below.refl _ _ | refine Below.drew ?_ | refine after ?_ hb4 | refine after ?_ hb5 | refine after ?_ hb6))))
    (first
      | (go_at_call 24; refine Calls.mono (HC1.out _ (BW.out _ (by repeat (first | exact Below.refl _ _ | refine Below.drew ?_ | refine after ?_ hb4 | refine after ?_ hb5 | refine after ?_ hb6)))) ?_; rintro e w4 ⟨⟨v4, rfl, ho4⟩, hb4⟩)
      | (go_at_call 25; refine Calls.mono (HC2.out _ (BW.out _ (by repeat (first | exact Below.refl _ _ | refine Below.drew ?_ | refine after ?_ hb4 | refine after ?_ hb5 | refine after ?_ hb6)))) ?_; rintro e w5 ⟨⟨v5, rfl, ho5⟩, hb5⟩)
      | (go_at_call 26; refine Calls.mono (HC3.out _ (BW.out _ (by repeat (first | exact Below.refl _ _ | refine Below.drew ?_ | refine after ?_ hb4 | refine after ?_ hb5 | refine after ?_ hb6)))) ?_; rintro e w6 ⟨rfl, hb6⟩))
  all_goals go_wp2
  all_goals exact bodyPost_ret (v := .tuple #[v4, v5, .int .i64 (s.most - sits l.se l.sen), .bool true]) (by simp [results, Tryz.results6, go_sem]) rfl ⟨HEND.out _ _ _ (own_below (w := w4) (by repeat (first | exact Below.refl _ _ | refine Below.drew ?_ | refine after ?_ hb4 | refine after ?_ hb5 | refine after ?_ hb6)) ho4) (own_below (w := w5) (by repeat (first | exact Below.refl _ _ | refine Below.drew ?_ | refine after ?_ hb4 | refine after ?_ hb5 | refine after ?_ hb6)) ho5), BW.out _ (by repeat (first | exact Below.refl _ _ | refine Below.drew ?_ | refine after ?_ hb4 | refine after ?_ hb5 | refine after ?_ hb6))⟩

theorem specLeft_any (cs : List Value) (x : Off) (z : Int) (w : World) (hs : Off.Short x 1048576) (h : Off.Is w cs x) :
    Calls Tryz.prog 6 #[.agg cs.toArray, .int .i64 z] w fun e w' => LeftAns x z w.heap.size 3 e w' ∧ Below w.heap.size w w' := by
  obtain ⟨asa, csa, ald, cld, abk, cbk, rfl, h1, s1, h2, s2, h3, s3⟩ := h
  exact specLeft_raw x asa ald abk csa cld cbk z w hs h1 h2 h3 s3.1

end Go.Proofs.YtaopapjnhlombaaGreat

namespace Go.Proofs.YtaopapjnhlombaaGreat
open Go.RowKit Classical

def LOk (x : Off) (z : Int) : Prop := OffOk x ∧ findIx x.sa z x.san < x.san
noncomputable def lOk (x : Off) (z : Int) : Bool := decide (LOk x z)
noncomputable def lN1 (x : Off) (z : Int) : Nat := if LOk x z then (x.sa (findIx x.sa z x.san)).la.n else 0
noncomputable def lN2 (x : Off) (z : Int) : Nat := if LOk x z then (x.sa (findIx x.sa z x.san)).ca.n else 0
noncomputable def lF1 (x : Off) (z : Int) : Nat → Int := left (x.sa (findIx x.sa z x.san)).la (x.ld (findIx x.sa z x.san)).st (x.ld (findIx x.sa z x.san)).stn
noncomputable def lF2 (x : Off) (z : Int) : Nat → Int := leftR (x.sa (findIx x.sa z x.san)).ca (x.ld (findIx x.sa z x.san)).ro (x.ld (findIx x.sa z x.san)).ron
noncomputable def lM (x : Off) (z : Int) : Int := if LOk x z then (x.sa (findIx x.sa z x.san)).most - sits (x.ld (findIx x.sa z x.san)).se (x.ld (findIx x.sa z x.san)).sen else 0
theorem lN1_le {x : Off} (z : Int) {B : Nat} (hs : Off.Short x B) : lN1 x z ≤ B := by
  unfold lN1
  by_cases h : LOk x z
  · rw [if_pos h]; exact (hs.1.2 _ h.2).2.2.1
  · rw [if_neg h]; exact Nat.zero_le _
theorem lN2_le {x : Off} (z : Int) {B : Nat} (hs : Off.Short x B) : lN2 x z ≤ B := by
  unfold lN2
  by_cases h : LOk x z
  · rw [if_pos h]; exact (hs.1.2 _ h.2).2.2.2
  · rw [if_neg h]; exact Nat.zero_le _
theorem own_nil (w : World) (base e : Nat) (F : Nat → Int) : w.ownsRow base e 1 (.slice none 0 0) 0 (intList F 0) := ⟨by simp [intList], .inl ⟨rfl, rfl⟩⟩
/-- The answer in one form. -/
def LeftU (x : Off) (z : Int) (base ti : Nat) (e : Ending) (w : World) : Prop :=
  ∃ v1 v2, e = .returned (.tuple #[v1, v2, .int .i64 (lM x z), .bool (lOk x z)]) ∧ w.ownsRow base ti 1 v1 (lN1 x z) (intList (lF1 x z) (lN1 x z)) ∧ w.ownsRow base ti 1 v2 (lN2 x z) (intList (lF2 x z) (lN2 x z))
/-- .. and its two lists lie apart. -/
def LeftV (x : Off) (z : Int) (base ti : Nat) (e : Ending) (w : World) : Prop :=
  ∃ v1 v2, e = .returned (.tuple #[v1, v2, .int .i64 (lM x z), .bool (lOk x z)]) ∧ w.ownsRow base ti 1 v1 (lN1 x z) (intList (lF1 x z) (lN1 x z)) ∧ w.ownsRow base ti 1 v2 (lN2 x z) (intList (lF2 x z) (lN2 x z)) ∧ ∀ b, v1.ownBlock = some b → v2.ownBlock ≠ some b
theorem leftU_of {x : Off} {z : Int} {base ti : Nat} {e : Ending} {w : World} (h : LeftAns x z base ti e w) : LeftU x z base ti e w := by
  rcases h with ⟨k, v1, v2, ho, hk, hf, he, h1, h2⟩ | ⟨hn, he⟩
  · have hl : LOk x z := ⟨ho, by rw [hf]; exact hk⟩
    refine ⟨v1, v2, ?_, ?_, ?_⟩
    · rw [he]; unfold lM lOk; rw [if_pos hl, hf]; simp [hl]
    · unfold lN1 lF1; rw [if_pos hl, hf]; exact h1
    · unfold lN2 lF2; rw [if_pos hl, hf]; exact h2
  · have hl : ¬ LOk x z := hn
    refine ⟨.slice none 0 0, .slice none 0 0, ?_, ?_, ?_⟩
    · rw [he]; unfold lM lOk; rw [if_neg hl]; simp [hl]
    · unfold lN1; rw [if_neg hl]; exact own_nil _ _ _ _
    · unfold lN2; rw [if_neg hl]; exact own_nil _ _ _ _

end Go.Proofs.YtaopapjnhlombaaGreat
