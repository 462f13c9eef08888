/-
  OWN TEXT: OffI, FreeP0, FreeL, LeftOn.
-/
import Derived.Deep.RegionHeld3
import Derived.Test.YtlelckbeoclhbaaGreatRows
import Derived.Test.YtlelckbeoclhbaaGreatB22
import Derived.Test.YtlelckbeoclhbaaGreatB24
import Derived.Test.YtlelckbeoclhbaaGreatB26
import Derived.Test.YtlelckbeoclhbaaGreatB11
import Derived.Test.YtlelckbeoclhbaaGreatB02
import Derived.Test.YtlelckbeoclhbaaGreatB16
set_option maxHeartbeats 12800000
set_option maxRecDepth 100000
namespace Go.Proofs.YtlelckbeoclhbaaGreat
open Go.RowKit
theorem goodLoads_any (x : Off) (asa ald : Option Addr) (csa cld : Nat) (w : World) (hs : Off.Short x 1048576) (hsa : SailsAt w asa x.san x.sa) (hld : LoadsAt w ald x.ldn x.ld) :
    Calls Tryz.prog 62 #[.slice asa x.san csa, .slice ald x.ldn cld] w fun e w' => SaysIf (x.ldn = x.san ∧ ∀ k, k < x.san → LoadOk (x.sa k) (x.ld k)) e ∧ Below w.heap.size w w' := by
  have HSA : Hid (SailsAt w asa x.san x.sa) := hsa
  have HLD : Hid (LoadsAt w ald x.ldn x.ld) := hld
  have HSH : Hid (Off.Short x 1048576) := hs
  have n1 : x.san ≤ 1048576 := hs.1.1
  clear hsa hld hs
  by_cases g1 : x.ldn = x.san
  case neg =>
    have e1 : ((x.ldn : Int) != (x.san : Int)) = true := by simp; omega
    have HN : Hid (¬ (x.ldn = x.san ∧ ∀ k, k < x.san → LoadOk (x.sa k) (x.ld k))) := fun h => g1 h.1
    clear g1
    go_enter Tryz.func62, Tryz.ntmps62
    go_wp2
    go_ret
    exact ⟨says_no HN.out, Below.refl _ _⟩
  have e1 : ((x.ldn : Int) != (x.san : Int)) = false := by simp; omega
  have HE : Hid (x.ldn = x.san) := g1
  clear g1
  go_enter Tryz.func62, Tryz.ntmps62
  go_wp2
  clear e1
  go_loopw [5, 6, 7, 15] (fun _ _ _ i wr => ∃ k : Nat, k ≤ x.san ∧ i = .int .i64 k ∧ (∀ j, j < k → LoadOk (x.sa j) (x.ld j)) ∧ Below w.heap.size w wr) (fun _ _ _ i _ => x.san - (intOf i).toNat)
  case atStart => exact ⟨0, Nat.zero_le _, rfl, fun j hj => by omega, Below.refl _ _⟩
  case round =>
    obtain ⟨k, hk, rfl, hall, hbel⟩ := hrel
    have HA : Hid (∀ j, j < k → LoadOk (x.sa j) (x.ld j)) := hall
    clear hall
    by_cases hlt : k < x.san
    · obtain ⟨sb, so, la, lc, ca, cc, rfl, f0, f1, f2, f3, f4, f5, f6, f7, hla, hca, sla, sca⟩ := HSA.out k hlt
      obtain ⟨s, hsd⟩ : ∃ s, s = x.sa k := ⟨_, rfl⟩
      have hsh := HSH.out.1.2 k hlt
      rw [← hsd] at f0 f1 f2 f3 f4 f5 f6 f7 hla hca sla sca hsh
      have HSD : Hid (s = x.sa k) := hsd
      have lsb := World.block_lt_of_cell? w _ f0
      have c0 := (hbel.cell (p := ⟨sb, so + k * 8, none⟩) lsb).trans f0
      have c1 := (hbel.cell (p := ⟨sb, so + k * 8 + 1, none⟩) lsb).trans f1
      have c2 := (hbel.cell (p := ⟨sb, so + k * 8 + 2, none⟩) lsb).trans f2
      have c3 := (hbel.cell (p := ⟨sb, so + k * 8 + 3, none⟩) lsb).trans f3
      have c4 := (hbel.cell (p := ⟨sb, so + k * 8 + 4, none⟩) lsb).trans f4
      have c5 := (hbel.cell (p := ⟨sb, so + k * 8 + 5, none⟩) lsb).trans f5
      have c6 := (hbel.cell (p := ⟨sb, so + k * 8 + 6, none⟩) lsb).trans f6
      have c7 := (hbel.cell (p := ⟨sb, so + k * 8 + 7, none⟩) lsb).trans f7
      obtain ⟨C, hC, hI⟩ := HLD.out
      have hk2 : k < x.ldn := by have := HE.out; omega
      obtain ⟨lb, lo, rfl, hc⟩ := hC k hk2
      obtain ⟨l, hld⟩ : ∃ l, l = x.ld k := ⟨_, rfl⟩
      have hlh := HSH.out.2.1.2 k hk2
      obtain ⟨ast, cst, aro, cro, ase, cse, eC, hst, sst, hro, sro, hse, sse⟩ := hI k hk2
      rw [← hld] at eC hst sst hro sro hse sse hlh
      have HLL : Hid (l = x.ld k) := hld
      have llb : lb < w.heap.size := World.block_lt_of_cell? w _ (hc 0 (by decide))
      have d0 : ∀ o, (wr.alloc o).cell? ⟨lb, lo + k * 3, none⟩ = some (.slice ast l.stn cst) := fun o => ((push hbel o).cell (p := ⟨lb, lo + k * 3, none⟩) llb).trans (by have := hc 0 (by decide); rw [eC] at this; exact this)
      have d1 : ∀ o, (wr.alloc o).cell? ⟨lb, lo + k * 3 + 1, none⟩ = some (.slice aro l.ron cro) := fun o => ((push hbel o).cell (p := ⟨lb, lo + k * 3 + 1, none⟩) llb).trans (by have := hc 1 (by decide); rw [eC] at this; exact this)
      have d2 : ∀ o, (wr.alloc o).cell? ⟨lb, lo + k * 3 + 2, none⟩ = some (.slice ase l.sen cse) := fun o => ((push hbel o).cell (p := ⟨lb, lo + k * 3 + 2, none⟩) llb).trans (by have := hc 2 (by decide); rw [eC] at this; exact this)
      have HLA : Hid (PairsAt w la s.la) := hla
      have HCA : Hid (PairsAt w ca s.ca) := hca
      have HST : Hid (StaysAt w ast l.stn l.st ∧ l.stn ≤ cst) := ⟨hst, sst.1⟩
      have HRO : Hid (RoomsAt w aro l.ron l.ro ∧ l.ron ≤ cro) := ⟨hro, sro.1⟩
      have HSE : Hid (SeatsAt w ase l.sen l.se ∧ l.sen ≤ cse) := ⟨hse, sse.1⟩
      have HLH : Hid (Load.Short l 1048576) := hlh
      have HSS : Hid (s.la.n ≤ 1048576 ∧ s.ca.n ≤ 1048576) := ⟨hsh.2.2.1, hsh.2.2.2⟩
      have h0 : (0 : Int) ≤ (k : Int) := by omega
      have h1 : (k : Int) < (x.ldn : Int) := by omega
      clear hC hI hc eC hsd hld f0 f1 f2 f3 f4 f5 f6 f7 hla hca sla sca hst sst hro sro hse sse hlh hsh hk2
      have hbx := push (push hbel (.cells #[.int .i64 s.id, .string s.fr, .string s.dst, .int .i64 s.dep, .int .i64 s.arr, .slice la s.la.n lc, .slice ca s.ca.n cc, .int .i64 s.most] 54)) (.cells #[.slice ast l.stn cst, .slice aro l.ron cro, .slice ase l.sen cse] 62)
      have bS : ((wr.alloc (.cells #[.int .i64 s.id, .string s.fr, .string s.dst, .int .i64 s.dep, .int .i64 s.arr, .slice la s.la.n lc, .slice ca s.ca.n cc, .int .i64 s.most] 54)).alloc (.cells #[.slice ast l.stn cst, .slice aro l.ron cro, .slice ase l.sen cse] 62)).heap[wr.heap.size]? = some (.cells #[.int .i64 s.id, .string s.fr, .string s.dst, .int .i64 s.dep, .int .i64 s.arr, .slice la s.la.n lc, .slice ca s.ca.n cc, .int .i64 s.most] 54 (0, 0)) := blk_alloc (heap_alloc_new wr _) _
      have bL : ((wr.alloc (.cells #[.int .i64 s.id, .string s.fr, .string s.dst, .int .i64 s.dep, .int .i64 s.arr, .slice la s.la.n lc, .slice ca s.ca.n cc, .int .i64 s.most] 54)).alloc (.cells #[.slice ast l.stn cst, .slice aro l.ron cro, .slice ase l.sen cse] 62)).heap[wr.heap.size + 1]? = some (.cells #[.slice ast l.stn cst, .slice aro l.ron cro, .slice ase l.sen cse] 62 (0, 0)) := by simpa using heap_alloc_new (wr.alloc _) _
      have y5 := blk_cell bS 5 _ rfl
      have m0 := blk_cell bL 0 _ rfl
      go_wp2_with fail
      generalize hBx : wr.heap.size = Bx at bS bL y5 m0 ⊢
      generalize (wr.alloc (.cells #[.int .i64 s.id, .string s.fr, .string s.dst, .int .i64 s.dep, .int .i64 s.arr, .slice la s.la.n lc, .slice ca s.ca.n cc, .int .i64 s.most] 54)).alloc (.cells #[.slice ast l.stn cst, .slice aro l.ron cro, .slice ase l.sen cse] 62) = V at hbx bS bL y5 m0 ⊢
      clear hBx c0 c1 c2 c3 c4 c5 c6 c7 d0 d1 d2 y5 m0 hbel
      refine (implDeck_any la ast s.la.n lc l.stn cst s.la l.st _ rfl HSS.out.1 HLH.out.1 HST.out.2 (HLA.out.below hbx) (HST.out.1.below hbx)).mono ?_
      rintro e V0 ⟨⟨t0, rfl, ht0⟩, hbv⟩
      have HT0 : Hid (t0 = true ↔ DeckI s.la l.stn l.st) := ht0
      have bS' := blk_below bS hbv
      have bL' := blk_below bL hbv
      have hbx' := after hbx hbv
      clear bS bL hbx hbv ht0
      have bS := bS'
      have bL := bL'
      have hbx := hbx'
      clear bS' bL' hbx'
      cases t0 with
      | false =>
        have HN : Hid (¬ (x.ldn = x.san ∧ ∀ k, k < x.san → LoadOk (x.sa k) (x.ld k))) := fun h => by have h := h.2 k hlt; rw [← HSD.out, ← HLL.out] at h; have := HT0.out.2 ((deck_iff _ _ _).1 h.1); cases this
        go_wp2
        go_ret
        exact ⟨says_no HN.out, hbx⟩
      | true =>
      have HP0 : Hid (DeckI s.la l.stn l.st) := HT0.out.1 rfl
      clear HT0
      have y6 := blk_cell bS 6 _ rfl
      have m1 := blk_cell bL 1 _ rfl
      go_wp2_with fail
      clear y6 m1
      refine (implRooms_any ca aro s.ca.n cc l.ron cro s.ca l.ro _ rfl HSS.out.2 HLH.out.2.1 HRO.out.2 (HCA.out.below hbx) (HRO.out.1.below hbx)).mono ?_
      rintro e V1 ⟨⟨t1, rfl, ht1⟩, hbv⟩
      have HT1 : Hid (t1 = true ↔ RoomsS s.ca l.ron l.ro) := ht1
      have bS' := blk_below bS hbv
      have bL' := blk_below bL hbv
      have hbx' := after hbx hbv
      clear bS bL hbx hbv ht1
      have bS := bS'
      have bL := bL'
      have hbx := hbx'
      clear bS' bL' hbx'
      cases t1 with
      | false =>
        have HN : Hid (¬ (x.ldn = x.san ∧ ∀ k, k < x.san → LoadOk (x.sa k) (x.ld k))) := fun h => by have h := h.2 k hlt; rw [← HSD.out, ← HLL.out] at h; have := HT1.out.2 (h.2.1); cases this
        go_wp2
        go_ret
        exact ⟨says_no HN.out, hbx⟩
      | true =>
      have HP1 : Hid (RoomsS s.ca l.ron l.ro) := HT1.out.1 rfl
      clear HT1
      have m2 := blk_cell bL 2 _ rfl
      have y7 := blk_cell bS 7 _ rfl
      go_wp2_with fail
      clear y7 m2
      refine (implSeats_any s.most ase l.sen cse l.se _ (by have := HLH.out.2.2; omega) HSE.out.2 (HSE.out.1.below hbx)).mono ?_
      rintro e V2 ⟨⟨t2, rfl, ht2⟩, hbv⟩
      have HT2 : Hid (t2 = true ↔ SeatsOk s.most l.sen l.se) := ht2
      have bS' := blk_below bS hbv
      have bL' := blk_below bL hbv
      have hbx' := after hbx hbv
      clear bS bL hbx hbv ht2
      have bS := bS'
      have bL := bL'
      have hbx := hbx'
      clear bS' bL' hbx'
      cases t2 with
      | false =>
        have HN : Hid (¬ (x.ldn = x.san ∧ ∀ k, k < x.san → LoadOk (x.sa k) (x.ld k))) := fun h => by have h := h.2 k hlt; rw [← HSD.out, ← HLL.out] at h; have := HT2.out.2 (h.2.2); cases this
        go_wp2
        go_ret
        exact ⟨says_no HN.out, hbx⟩
      | true =>
      have HP2 : Hid (SeatsOk s.most l.sen l.se) := HT2.out.1 rfl
      clear HT2
      go_wp2
      go_roundw
      case rel => exact ⟨k + 1, by omega, by go_num, fun j hj => by
        by_cases e : j = k
        · subst e; rw [← HSD.out, ← HLL.out]; exact ⟨(deck_iff _ _ _).2 HP0.out, HP1.out, HP2.out⟩
        · exact HA.out j (by omega), hbx⟩
      case measure => simp [intOf]; omega
    · obtain rfl : k = x.san := by omega
      go_wp2
      go_ret
      exact ⟨says_yes ⟨HE.out, HA.out⟩, hbel⟩
theorem book_iff {x : Off} {i : Nat} : BookOk x i ↔ (x.bk i).name = i + 1 ∧ (In (x.bk i).who 1 9999 ∧ ¬ Has (whoB x.bk) i (x.bk i).who) ∧ BookG x.san x.sa (x.bk i) := by
  unfold BookOk BookG
  constructor
  · rintro ⟨h1, h2, h3, h4, h5, h6, h7, h8, h9⟩
    exact ⟨h1, ⟨h2, fun ⟨j, hj, e⟩ => h8 j hj e⟩, h3, h4, h5, h6, h9, h7⟩
  · rintro ⟨h1, ⟨h2, h8⟩, h3, h4, h5, h6, h9, h7⟩
    exact ⟨h1, h2, h3, h4, h5, h6, h7, fun j hj e => h8 ⟨j, hj, e⟩, h9⟩
theorem goodBookings_any (x : Off) (asa abk : Option Addr) (csa cbk : Nat) (w : World) (hs : Off.Short x 1048576) (hT : GoodTab x.san x.sa) (hsa : SailsAt w asa x.san x.sa) (hbk : BooksAt w abk x.bkn x.bk) (hcb : x.bkn ≤ cbk) :
    Calls Tryz.prog 63 #[.slice asa x.san csa, .slice abk x.bkn cbk] w fun e w' => SaysIf (x.bkn ≤ 30 ∧ ∀ i, i < x.bkn → BookOk x i) e ∧ Below w.heap.size w w' := by
  have HSA : Hid (SailsAt w asa x.san x.sa) := hsa
  have HSH : Hid (Off.Short x 1048576) := hs
  have HT : Hid (GoodTab x.san x.sa) := hT
  have n1 : x.san ≤ 1048576 := hs.1.1
  obtain ⟨C, hC, hI⟩ := hbk
  have HC : Hid (RecsAt w abk x.bkn 13 C) := hC
  have HI : Hid (∀ k, k < x.bkn → Book.Is w (C k) (x.bk k)) := hI
  clear hsa hs hT hC hI
  by_cases g1 : x.bkn ≤ 30
  case neg =>
    have e1 : decide ((30 : Int) < (x.bkn : Int)) = true := by simp; omega
    have HN : Hid (¬ (x.bkn ≤ 30 ∧ ∀ i, i < x.bkn → BookOk x i)) := fun h => g1 h.1
    clear g1
    go_enter Tryz.func63, Tryz.ntmps63
    go_wp2
    go_ret
    exact ⟨says_no HN.out, Below.refl _ _⟩
  have e1 : decide ((30 : Int) < (x.bkn : Int)) = false := by simp; omega
  go_enter Tryz.func63, Tryz.ntmps63
  go_wp2
  clear e1
  go_loopw [5, 6, 12] (fun _ _ i wr => ∃ k : Nat, k ≤ x.bkn ∧ i = .int .i64 k ∧ (∀ j, j < k → BookOk x j) ∧ Below w.heap.size w wr) (fun _ _ i _ => x.bkn - (intOf i).toNat)
  case atStart => exact ⟨0, Nat.zero_le _, rfl, fun j hj => by omega, Below.refl _ _⟩
  case round =>
    obtain ⟨k, hk, rfl, hall, hbel⟩ := hrel
    have HA : Hid (∀ j, j < k → BookOk x j) := hall
    clear hall
    by_cases hlt : k < x.bkn
    · obtain ⟨bb, bo, rfl, hc⟩ := HC.out k hlt
      obtain ⟨alg, clg, eC, hlg, _⟩ := HI.out k hlt
      obtain ⟨b, hb⟩ : ∃ b, b = x.bk k := ⟨_, rfl⟩
      rw [← hb] at eC hlg
      have HB : Hid (b = x.bk k) := hb
      have HLG : Hid (IntsAt w alg b.lgn b.lg) := hlg
      have HSB : Hid (Book.Short b 1048576) := by rw [hb]; exact HSH.out.2.2.2 k hlt
      have hltb : bb < w.heap.size := World.block_lt_of_cell? w _ (hc 0 (by decide))
      have c0 : wr.cell? ⟨bb, bo + k * 13, none⟩ = some (.int .i64 b.name) := (hbel.cell (p := ⟨bb, bo + k * 13, none⟩) hltb).trans (by have := hc 0 (by decide); rw [eC] at this; exact this)
      have c1 : wr.cell? ⟨bb, bo + k * 13 + 1, none⟩ = some (.int .i64 b.who) := (hbel.cell (p := ⟨bb, bo + k * 13 + 1, none⟩) hltb).trans (by have := hc 1 (by decide); rw [eC] at this; exact this)
      have c2 : wr.cell? ⟨bb, bo + k * 13 + 2, none⟩ = some (.string b.own) := (hbel.cell (p := ⟨bb, bo + k * 13 + 2, none⟩) hltb).trans (by have := hc 2 (by decide); rw [eC] at this; exact this)
      have c3 : wr.cell? ⟨bb, bo + k * 13 + 3, none⟩ = some (.slice alg b.lgn clg) := (hbel.cell (p := ⟨bb, bo + k * 13 + 3, none⟩) hltb).trans (by have := hc 3 (by decide); rw [eC] at this; exact this)
      have c4 : wr.cell? ⟨bb, bo + k * 13 + 4, none⟩ = some (.int .i64 b.pe) := (hbel.cell (p := ⟨bb, bo + k * 13 + 4, none⟩) hltb).trans (by have := hc 4 (by decide); rw [eC] at this; exact this)
      have c5 : wr.cell? ⟨bb, bo + k * 13 + 5, none⟩ = some (.int .i64 b.len) := (hbel.cell (p := ⟨bb, bo + k * 13 + 5, none⟩) hltb).trans (by have := hc 5 (by decide); rw [eC] at this; exact this)
      have c6 : wr.cell? ⟨bb, bo + k * 13 + 6, none⟩ = some (.int .i64 b.hei) := (hbel.cell (p := ⟨bb, bo + k * 13 + 6, none⟩) hltb).trans (by have := hc 6 (by decide); rw [eC] at this; exact this)
      have c7 : wr.cell? ⟨bb, bo + k * 13 + 7, none⟩ = some (.int .i64 b.cl) := (hbel.cell (p := ⟨bb, bo + k * 13 + 7, none⟩) hltb).trans (by have := hc 7 (by decide); rw [eC] at this; exact this)
      have c8 : wr.cell? ⟨bb, bo + k * 13 + 8, none⟩ = some (.bool b.all) := (hbel.cell (p := ⟨bb, bo + k * 13 + 8, none⟩) hltb).trans (by have := hc 8 (by decide); rw [eC] at this; exact this)
      have c9 : wr.cell? ⟨bb, bo + k * 13 + 9, none⟩ = some (.int .i64 b.be) := (hbel.cell (p := ⟨bb, bo + k * 13 + 9, none⟩) hltb).trans (by have := hc 9 (by decide); rw [eC] at this; exact this)
      have c10 : wr.cell? ⟨bb, bo + k * 13 + 10, none⟩ = some (.int .i64 b.state) := (hbel.cell (p := ⟨bb, bo + k * 13 + 10, none⟩) hltb).trans (by have := hc 10 (by decide); rw [eC] at this; exact this)
      have c11 : wr.cell? ⟨bb, bo + k * 13 + 11, none⟩ = some (.int .i64 b.unt) := (hbel.cell (p := ⟨bb, bo + k * 13 + 11, none⟩) hltb).trans (by have := hc 11 (by decide); rw [eC] at this; exact this)
      have c12 : wr.cell? ⟨bb, bo + k * 13 + 12, none⟩ = some (.int .i64 b.price) := (hbel.cell (p := ⟨bb, bo + k * 13 + 12, none⟩) hltb).trans (by have := hc 12 (by decide); rw [eC] at this; exact this)
      clear hc eC hb hlg
      have hbx := push hbel (.cells #[.int .i64 b.name, .int .i64 b.who, .string b.own, .slice alg b.lgn clg, .int .i64 b.pe, .int .i64 b.len, .int .i64 b.hei, .int .i64 b.cl, .bool b.all, .int .i64 b.be, .int .i64 b.state, .int .i64 b.unt, .int .i64 b.price] 72)
      have hbox := heap_alloc_new wr (.cells #[.int .i64 b.name, .int .i64 b.who, .string b.own, .slice alg b.lgn clg, .int .i64 b.pe, .int .i64 b.len, .int .i64 b.hei, .int .i64 b.cl, .bool b.all, .int .i64 b.be, .int .i64 b.state, .int .i64 b.unt, .int .i64 b.price] 72)
      go_upto_region 6 with fail
      generalize hBx : wr.heap.size = Bx at hbox ⊢
      generalize wr.alloc (.cells #[.int .i64 b.name, .int .i64 b.who, .string b.own, .slice alg b.lgn clg, .int .i64 b.pe, .int .i64 b.len, .int .i64 b.hei, .int .i64 b.cl, .bool b.all, .int .i64 b.be, .int .i64 b.state, .int .i64 b.unt, .int .i64 b.price] 72) = W at hbx hbox ⊢
      clear hBx c0 c1 c2 c3 c4 c5 c6 c7 c8 c9 c10 c11 c12
      have hBW : Bx < W.heap.size := blk_lt hbox
      have z0 : ∀ g : Grown W, g.val.cell? ⟨Bx, 0, none⟩ = some (.int .i64 b.name) := fun g => (g.bel.cell hBW).trans (blk_cell hbox 0 _ rfl)
      have z1 : ∀ g : Grown W, g.val.cell? ⟨Bx, 1, none⟩ = some (.int .i64 b.who) := fun g => (g.bel.cell hBW).trans (blk_cell hbox 1 _ rfl)
      have z2 : ∀ g : Grown W, g.val.cell? ⟨Bx, 2, none⟩ = some (.string b.own) := fun g => (g.bel.cell hBW).trans (blk_cell hbox 2 _ rfl)
      have z3 : ∀ g : Grown W, g.val.cell? ⟨Bx, 3, none⟩ = some (.slice alg b.lgn clg) := fun g => (g.bel.cell hBW).trans (blk_cell hbox 3 _ rfl)
      have z4 : ∀ g : Grown W, g.val.cell? ⟨Bx, 4, none⟩ = some (.int .i64 b.pe) := fun g => (g.bel.cell hBW).trans (blk_cell hbox 4 _ rfl)
      have z5 : ∀ g : Grown W, g.val.cell? ⟨Bx, 5, none⟩ = some (.int .i64 b.len) := fun g => (g.bel.cell hBW).trans (blk_cell hbox 5 _ rfl)
      have z6 : ∀ g : Grown W, g.val.cell? ⟨Bx, 6, none⟩ = some (.int .i64 b.hei) := fun g => (g.bel.cell hBW).trans (blk_cell hbox 6 _ rfl)
      have z7 : ∀ g : Grown W, g.val.cell? ⟨Bx, 7, none⟩ = some (.int .i64 b.cl) := fun g => (g.bel.cell hBW).trans (blk_cell hbox 7 _ rfl)
      have z8 : ∀ g : Grown W, g.val.cell? ⟨Bx, 8, none⟩ = some (.bool b.all) := fun g => (g.bel.cell hBW).trans (blk_cell hbox 8 _ rfl)
      have z9 : ∀ g : Grown W, g.val.cell? ⟨Bx, 9, none⟩ = some (.int .i64 b.be) := fun g => (g.bel.cell hBW).trans (blk_cell hbox 9 _ rfl)
      have z10 : ∀ g : Grown W, g.val.cell? ⟨Bx, 10, none⟩ = some (.int .i64 b.state) := fun g => (g.bel.cell hBW).trans (blk_cell hbox 10 _ rfl)
      have z11 : ∀ g : Grown W, g.val.cell? ⟨Bx, 11, none⟩ = some (.int .i64 b.unt) := fun g => (g.bel.cell hBW).trans (blk_cell hbox 11 _ rfl)
      have z12 : ∀ g : Grown W, g.val.cell? ⟨Bx, 12, none⟩ = some (.int .i64 b.price) := fun g => (g.bel.cell hBW).trans (blk_cell hbox 12 _ rfl)
      clear hbox
      have hwk : IntKind.i64.wrap ((k : Int) + 1) = (k : Int) + 1 := by rw [IntKind.wrap_i64]; omega
      have hk0 : (0 : Int) ≤ (k : Int) := by omega
      have hkc : (k : Int) ≤ (cbk : Int) := by omega
      have hkc2 : k ≤ cbk := by omega
      by_cases p1 : b.name = (k : Int) + 1
      case neg =>
        have e1 : (b.name != (k : Int) + 1) = true := by simpa using p1
        have HN : Hid (¬ (x.bkn ≤ 30 ∧ ∀ i, i < x.bkn → BookOk x i)) := fun h => p1 (by rw [HB.out]; exact (book_iff.1 (h.2 k hlt)).1)
        clear p1
        refine wp_region_grow (by kernel_rfl) (by kernel_rfl) ?_
        repeat (first | go_big_quiet_skip | (go_big_quiet_want; go_big_quiet_op; first | go_big_quiet_on))
        refine wpQuiet_nil ?_
        rintro _ ⟨g, rfl⟩
        go_wp2
        go_ret
        exact ⟨says_no HN.out, after hbx g.bel⟩
      have e1 : (b.name != (k : Int) + 1) = false := by simpa using p1
      have P1 : Hid (b.name = (k : Int) + 1) := p1
      clear p1
      by_cases p2 : In b.who 1 9999 ∧ ¬ Has (whoB x.bk) k b.who
      case neg =>
        have P2 : Hid (¬ (In b.who 1 9999 ∧ ¬ Has (whoB x.bk) k b.who)) := p2
        have HN : Hid (¬ (x.bkn ≤ 30 ∧ ∀ i, i < x.bkn → BookOk x i)) := fun h => p2 (by rw [HB.out]; exact (book_iff.1 (h.2 k hlt)).2.1)
        clear p2
        refine wp_region_grow (by kernel_rfl) (by kernel_rfl) ?_
        repeat (first | go_big_quiet_skip | (go_big_quiet_want; go_big_quiet_op; first | go_big_quiet_on | (apply Exists.intro; refine ⟨fun g => ?_, ?_⟩; (focus (go_at_call 110; refine grown_call (v := .bool false) ((isNewBy_any _ k cbk x.bk b.who _ (by omega) ⟨C, (HC.out.upto (by omega)).below (after hbx g.bel), fun j hj => (HI.out j (by omega)).below (after hbx g.bel)⟩).mono ?_); rintro e w2 ⟨⟨bb, rfl, hi⟩, hbb⟩; obtain rfl := Bool.eq_false_iff.2 (fun e => P2.out (hi.1 e)); exact ⟨rfl, hbb⟩)); go_big_quiet_on)))
        refine wpQuiet_nil ?_
        rintro _ ⟨g, rfl⟩
        go_wp2
        go_ret
        exact ⟨says_no HN.out, after hbx g.bel⟩
      have P2 : Hid (In b.who 1 9999 ∧ ¬ Has (whoB x.bk) k b.who) := p2
      clear p2
      by_cases p3 : BookG x.san x.sa b
      case neg =>
        have P3 : Hid (¬ BookG x.san x.sa b) := p3
        have HN : Hid (¬ (x.bkn ≤ 30 ∧ ∀ i, i < x.bkn → BookOk x i)) := fun h => p3 (by rw [HB.out]; exact (book_iff.1 (h.2 k hlt)).2.2)
        clear p3
        refine wp_region_grow (by kernel_rfl) (by kernel_rfl) ?_
        repeat (first | go_big_quiet_skip | (go_big_quiet_want; go_big_quiet_op; first | go_big_quiet_on | (apply Exists.intro; refine ⟨fun g => ?_, ?_⟩; (focus (go_at_call 110; refine grown_call (v := .bool true) ((isNewBy_any _ k cbk x.bk b.who _ (by omega) ⟨C, (HC.out.upto (by omega)).below (after hbx g.bel), fun j hj => (HI.out j (by omega)).below (after hbx g.bel)⟩).mono ?_); rintro e w2 ⟨⟨bb, rfl, hi⟩, hbb⟩; obtain rfl := hi.2 P2.out; exact ⟨rfl, hbb⟩)); go_big_quiet_on) | (apply Exists.intro; refine ⟨fun g => ?_, ?_⟩; (focus (go_at_call 111; refine grown_call (v := .bool false) ((goodBooking_any x.san x.sa asa csa b alg clg _ n1 HSH.out.1.2 HSB.out HT.out (HSA.out.below (after hbx g.bel)) (HLG.out.below (after hbx g.bel))).mono ?_); rintro e w2 ⟨⟨bb, rfl, hi⟩, hbb⟩; obtain rfl := Bool.eq_false_iff.2 (fun e => P3.out (hi.1 e)); exact ⟨rfl, hbb⟩)); go_big_quiet_on)))
        refine wpQuiet_nil ?_
        rintro _ ⟨g, rfl⟩
        go_wp2
        go_ret
        exact ⟨says_no HN.out, after hbx g.bel⟩
      have P3 : Hid (BookG x.san x.sa b) := p3
      have HK : Hid (BookOk x k) := book_iff.2 (by rw [← HB.out]; exact ⟨P1.out, P2.out, p3⟩)
      clear p3
      refine wp_region_grow (by kernel_rfl) (by kernel_rfl) ?_
      repeat (first | go_big_quiet_skip | (go_big_quiet_want; go_big_quiet_op; first | go_big_quiet_on | (apply Exists.intro; refine ⟨fun g => ?_, ?_⟩; (focus (go_at_call 110; refine grown_call (v := .bool true) ((isNewBy_any _ k cbk x.bk b.who _ (by omega) ⟨C, (HC.out.upto (by omega)).below (after hbx g.bel), fun j hj => (HI.out j (by omega)).below (after hbx g.bel)⟩).mono ?_); rintro e w2 ⟨⟨bb, rfl, hi⟩, hbb⟩; obtain rfl := hi.2 P2.out; exact ⟨rfl, hbb⟩)); go_big_quiet_on) | (apply Exists.intro; refine ⟨fun g => ?_, ?_⟩; (focus (go_at_call 111; refine grown_call (v := .bool true) ((goodBooking_any x.san x.sa asa csa b alg clg _ n1 HSH.out.1.2 HSB.out HT.out (HSA.out.below (after hbx g.bel)) (HLG.out.below (after hbx g.bel))).mono ?_); rintro e w2 ⟨⟨bb, rfl, hi⟩, hbb⟩; obtain rfl := hi.2 P3.out; exact ⟨rfl, hbb⟩)); go_big_quiet_on)))
      refine wpQuiet_nil ?_
      rintro _ ⟨g, rfl⟩
      go_wp2
      go_roundw
      case rel => exact ⟨k + 1, by omega, by go_num, fun j hj => by
        by_cases e : j = k
        · subst e; exact HK.out
        · exact HA.out j (by omega), after hbx g.bel⟩
      case measure => simp [intOf]; omega
    · obtain rfl : k = x.bkn := by omega
      go_wp2
      go_ret
      exact ⟨says_yes ⟨g1, HA.out⟩, hbel⟩
theorem implOff_raw (x : Off) (asa ald abk : Option Addr) (csa cld cbk : Nat) (w : World) (hs : Off.Short x 1048576) (hsa : SailsAt w asa x.san x.sa) (hld : LoadsAt w ald x.ldn x.ld) (hbk : BooksAt w abk x.bkn x.bk) (hcb : x.bkn ≤ cbk) :
    Calls Tryz.prog 25 #[.agg #[.slice asa x.san csa, .slice ald x.ldn cld, .slice abk x.bkn cbk]] w fun e w' => SaysIf (OffOk x) e ∧ Below w.heap.size w w' := by
  have HSA : Hid (SailsAt w asa x.san x.sa) := hsa
  have HLD : Hid (LoadsAt w ald x.ldn x.ld) := hld
  have HBK : Hid (BooksAt w abk x.bkn x.bk) := hbk
  have HSH : Hid (Off.Short x 1048576) := hs
  have n1 : x.san ≤ 1048576 := hs.1.1
  clear hsa hld hbk hs
  have hb0 : Below w.heap.size w (w.alloc (.cells #[.slice asa x.san csa, .slice ald x.ldn cld, .slice abk x.bkn cbk] 39)) := push (Below.refl _ _) _
  have bO := heap_alloc_new w (.cells #[.slice asa x.san csa, .slice ald x.ldn cld, .slice abk x.bkn cbk] 39)
  go_enter Tryz.func25, Tryz.ntmps25
  go_wp2_with fail
  generalize w.alloc (.cells #[.slice asa x.san csa, .slice ald x.ldn cld, .slice abk x.bkn cbk] 39) = V at hb0 bO ⊢
  refine (implTab_any asa x.san csa x.sa _ n1 HSH.out.1.2 (HSA.out.below hb0)).mono ?_
  rintro e V0 ⟨⟨t0, rfl, ht0⟩, hbv⟩
  have HT0 : Hid (t0 = true ↔ GoodTab x.san x.sa) := ht0
  have bO' := blk_below bO hbv
  have hb0' := after hb0 hbv
  clear bO hb0 hbv ht0
  have bO := bO'
  have hb0 := hb0'
  clear bO' hb0'
  have o0 := blk_cell bO 0 _ rfl
  have o1 := blk_cell bO 1 _ rfl
  have o2 := blk_cell bO 2 _ rfl
  cases t0 with
  | false =>
    have HN : Hid (¬ OffOk x) := fun h => by have := HT0.out.2 (h.1); cases this
    go_wp2
    go_ret
    exact ⟨says_no HN.out, hb0⟩
  | true =>
  have HP0 : Hid (GoodTab x.san x.sa) := HT0.out.1 rfl
  clear HT0
  go_wp2_with fail
  clear o0 o1 o2
  refine (goodLoads_any x asa ald csa cld _ HSH.out (HSA.out.below hb0) (HLD.out.below hb0)).mono ?_
  rintro e V1 ⟨⟨t1, rfl, ht1⟩, hbv⟩
  have HT1 : Hid (t1 = true ↔ x.ldn = x.san ∧ ∀ k, k < x.san → LoadOk (x.sa k) (x.ld k)) := ht1
  have bO' := blk_below bO hbv
  have hb0' := after hb0 hbv
  clear bO hb0 hbv ht1
  have bO := bO'
  have hb0 := hb0'
  clear bO' hb0'
  have o0 := blk_cell bO 0 _ rfl
  have o1 := blk_cell bO 1 _ rfl
  have o2 := blk_cell bO 2 _ rfl
  cases t1 with
  | false =>
    have HN : Hid (¬ OffOk x) := fun h => by have := HT1.out.2 (⟨h.2.1, h.2.2.2.1⟩); cases this
    go_wp2
    go_ret
    exact ⟨says_no HN.out, hb0⟩
  | true =>
  have HP1 : Hid (x.ldn = x.san ∧ ∀ k, k < x.san → LoadOk (x.sa k) (x.ld k)) := HT1.out.1 rfl
  clear HT1
  go_wp2_with fail
  clear o0 o1 o2
  refine (goodBookings_any x asa abk csa cbk _ HSH.out HP0.out (HSA.out.below hb0) (HBK.out.below hb0) hcb).mono ?_
  rintro e V2 ⟨⟨t2, rfl, ht2⟩, hbv⟩
  have HT2 : Hid (t2 = true ↔ x.bkn ≤ 30 ∧ ∀ i, i < x.bkn → BookOk x i) := ht2
  have bO' := blk_below bO hbv
  have hb0' := after hb0 hbv
  clear bO hb0 hbv ht2
  have bO := bO'
  have hb0 := hb0'
  clear bO' hb0'
  have o0 := blk_cell bO 0 _ rfl
  have o1 := blk_cell bO 1 _ rfl
  have o2 := blk_cell bO 2 _ rfl
  cases t2 with
  | false =>
    have HN : Hid (¬ OffOk x) := fun h => by have := HT2.out.2 (⟨h.2.2.1, h.2.2.2.2.1⟩); cases this
    go_wp2
    go_ret
    exact ⟨says_no HN.out, hb0⟩
  | true =>
  have HP2 : Hid (x.bkn ≤ 30 ∧ ∀ i, i < x.bkn → BookOk x i) := HT2.out.1 rfl
  clear HT2
  go_wp2
  clear o0 o1 o2
  obtain ⟨C, hC, hI⟩ := HBK.out
  have HC : Hid (RecsAt w abk x.bkn 13 C) := hC
  have HI : Hid (∀ k, k < x.bkn → Book.Is w (C k) (x.bk k)) := hI
  have HBO : Hid (V2.heap[w.heap.size]? = some (.cells #[.slice asa x.san csa, .slice ald x.ldn cld, .slice abk x.bkn cbk] 39 (0, 0))) := bO
  have HB0 : Hid (Below w.heap.size w V2) := hb0
  clear hC hI bO hb0
  go_loopw [3, 4, 28] (fun _ _ i wr => ∃ k : Nat, k ≤ x.san ∧ i = .int .i64 k ∧ (∀ j, j < k → Tallies x j) ∧ Below V2.heap.size V2 wr) (fun _ _ i _ => x.san - (intOf i).toNat)
  case atStart => exact ⟨0, Nat.zero_le _, rfl, fun j hj => by omega, Below.refl _ _⟩
  case round =>
    obtain ⟨k, hk, rfl, hall, hbel⟩ := hrel
    have HA : Hid (∀ j, j < k → Tallies x j) := hall
    clear hall
    by_cases hlt : k < x.san
    · have hbw := after HB0.out hbel
      obtain ⟨sb, so, la, lc, ca, cc, rfl, f0, f1, f2, f3, f4, f5, f6, f7, hla, hca, sla, sca⟩ := HSA.out k hlt
      obtain ⟨s, hsd⟩ : ∃ s, s = x.sa k := ⟨_, rfl⟩
      rw [← hsd] at f0 f1 f2 f3 f4 f5 f6 f7 hla hca sla sca
      have HSD : Hid (s = x.sa k) := hsd
      have lsb := World.block_lt_of_cell? w _ f0
      have c0 := (hbw.cell (p := ⟨sb, so + k * 8, none⟩) lsb).trans f0
      have c1 := (hbw.cell (p := ⟨sb, so + k * 8 + 1, none⟩) lsb).trans f1
      have c2 := (hbw.cell (p := ⟨sb, so + k * 8 + 2, none⟩) lsb).trans f2
      have c3 := (hbw.cell (p := ⟨sb, so + k * 8 + 3, none⟩) lsb).trans f3
      have c4 := (hbw.cell (p := ⟨sb, so + k * 8 + 4, none⟩) lsb).trans f4
      have c5 := (hbw.cell (p := ⟨sb, so + k * 8 + 5, none⟩) lsb).trans f5
      have c6 := (hbw.cell (p := ⟨sb, so + k * 8 + 6, none⟩) lsb).trans f6
      have c7 := (hbw.cell (p := ⟨sb, so + k * 8 + 7, none⟩) lsb).trans f7
      obtain ⟨D, hD, hJ⟩ := HLD.out
      have hk2 : k < x.ldn := by have := HP1.out.1; omega
      obtain ⟨lb, lo, rfl, hc⟩ := hD k hk2
      obtain ⟨l, hld⟩ : ∃ l, l = x.ld k := ⟨_, rfl⟩
      have hlh := HSH.out.2.1.2 k hk2
      obtain ⟨ast, cst, aro, cro, ase, cse, eC, hst, sst, hro, sro, hse, sse⟩ := hJ k hk2
      rw [← hld] at eC hst sst hro sro hse sse hlh
      have HLL : Hid (l = x.ld k) := hld
      have llb : lb < w.heap.size := World.block_lt_of_cell? w _ (hc 0 (by decide))
      have HD : Hid (∀ w', Below w.heap.size w w' → w'.cell? ⟨lb, lo + k * 3, none⟩ = some (.slice ast l.stn cst) ∧ w'.cell? ⟨lb, lo + k * 3 + 1, none⟩ = some (.slice aro l.ron cro) ∧ w'.cell? ⟨lb, lo + k * 3 + 2, none⟩ = some (.slice ase l.sen cse)) := fun w' h =>
        ⟨(h.cell (p := ⟨lb, lo + k * 3, none⟩) llb).trans (by have := hc 0 (by decide); rw [eC] at this; exact this), (h.cell (p := ⟨lb, lo + k * 3 + 1, none⟩) llb).trans (by have := hc 1 (by decide); rw [eC] at this; exact this), (h.cell (p := ⟨lb, lo + k * 3 + 2, none⟩) llb).trans (by have := hc 2 (by decide); rw [eC] at this; exact this)⟩
      have HCA : Hid (PairsAt w ca s.ca) := hca
      have HST : Hid (StaysAt w ast l.stn l.st) := hst
      have HRO : Hid (RoomsAt w aro l.ron l.ro) := hro
      have HSE : Hid (SeatsAt w ase l.sen l.se) := hse
      have HLH : Hid (Load.Short l 1048576) := hlh
      have hok := HP1.out.2 k hlt
      rw [← hsd, ← hld] at hok
      have HOK : Hid (LoadOk s l) := hok
      have h0 : (0 : Int) ≤ (k : Int) := by omega
      have h1 : (k : Int) < (x.ldn : Int) := by omega
      clear hD hJ hc eC hsd hld f0 f1 f2 f3 f4 f5 f6 f7 hla hca sla sca hst sst hro sro hse sse hlh hk2 hok
      have hbx := push hbel (.cells #[.int .i64 s.id, .string s.fr, .string s.dst, .int .i64 s.dep, .int .i64 s.arr, .slice la s.la.n lc, .slice ca s.ca.n cc, .int .i64 s.most] 54)
      have hbox := heap_alloc_new wr (.cells #[.int .i64 s.id, .string s.fr, .string s.dst, .int .i64 s.dep, .int .i64 s.arr, .slice la s.la.n lc, .slice ca s.ca.n cc, .int .i64 s.most] 54)
      go_upto_region 6 with fail
      generalize hBx : wr.heap.size = Bx at hbox ⊢
      generalize wr.alloc (.cells #[.int .i64 s.id, .string s.fr, .string s.dst, .int .i64 s.dep, .int .i64 s.arr, .slice la s.la.n lc, .slice ca s.ca.n cc, .int .i64 s.most] 54) = X at hbx hbox ⊢
      clear hBx c0 c1 c2 c3 c4 c5 c6 c7 hbel hbw
      have bO := blk_below HBO.out hbx
      have hbX := after HB0.out hbx
      have BW : Hid (∀ w', Below X.heap.size X w' → Below w.heap.size w w') := fun w' h => after hbX h
      have KS : Hid (∀ w', Below X.heap.size X w' → (w'.cell? ⟨Bx, 0, none⟩ = some (.int .i64 s.id) ∧ w'.cell? ⟨Bx, 1, none⟩ = some (.string s.fr) ∧ w'.cell? ⟨Bx, 2, none⟩ = some (.string s.dst) ∧ w'.cell? ⟨Bx, 3, none⟩ = some (.int .i64 s.dep) ∧ w'.cell? ⟨Bx, 4, none⟩ = some (.int .i64 s.arr) ∧ w'.cell? ⟨Bx, 5, none⟩ = some (.slice la s.la.n lc) ∧ w'.cell? ⟨Bx, 6, none⟩ = some (.slice ca s.ca.n cc) ∧ w'.cell? ⟨Bx, 7, none⟩ = some (.int .i64 s.most) ∧
          w'.cell? ⟨w.heap.size, 1, none⟩ = some (.slice (some ⟨lb, lo, none⟩) x.ldn cld) ∧ w'.cell? ⟨w.heap.size, 2, none⟩ = some (.slice abk x.bkn cbk) ∧
          w'.cell? ⟨lb, lo + k * 3, none⟩ = some (.slice ast l.stn cst) ∧ w'.cell? ⟨lb, lo + k * 3 + 1, none⟩ = some (.slice aro l.ron cro) ∧ w'.cell? ⟨lb, lo + k * 3 + 2, none⟩ = some (.slice ase l.sen cse))) := fun w' h => by
        have g1 := blk_below hbox h
        have g2 := blk_below bO h
        have g3 := HD.out w' (after hbX h)
        exact ⟨blk_cell g1 0 _ rfl, blk_cell g1 1 _ rfl, blk_cell g1 2 _ rfl, blk_cell g1 3 _ rfl, blk_cell g1 4 _ rfl, blk_cell g1 5 _ rfl, blk_cell g1 6 _ rfl, blk_cell g1 7 _ rfl, blk_cell g2 1 _ rfl, blk_cell g2 2 _ rfl, g3.1, g3.2.1, g3.2.2⟩
      obtain ⟨P, hP⟩ : ∃ P : Nat → Prop, P = fun i => OnB (x.bk i) s.id := ⟨_, rfl⟩
      have HC1 : Hid (∀ w', Below w.heap.size w w' → Calls Tryz.prog 65 #[.slice abk x.bkn cbk, .int .i64 s.id] w' fun e w2 => (∃ ao c, e = .returned (.slice ao (onL P x.bkn).length c) ∧ w2.ownsRow w.heap.size 72 13 (.slice ao (onL P x.bkn).length c) (onL P x.bkn).length (onRow C P x.bkn)) ∧ Below w'.heap.size w' w2) := fun w' h =>
        (bookingsOn_any abk x.bkn cbk x.bk C s.id w' HSH.out.2.2.1 HSH.out.2.2.2 (HC.out.below h) (fun j hj => (HI.out j hj).below h)).mono fun _ _ ⟨⟨ao, c, a, _, b⟩, d⟩ => by
          rw [hP]
          exact ⟨⟨ao, c, a, own_base b h.size⟩, d⟩
      have HC2 : Hid (∀ w' ao c, Below w.heap.size w w' → w'.ownsRow w.heap.size 72 13 (.slice ao (onL P x.bkn).length c) (onL P x.bkn).length (onRow C P x.bkn) → Calls Tryz.prog 64 #[.agg #[.int .i64 s.id, .string s.fr, .string s.dst, .int .i64 s.dep, .int .i64 s.arr, .slice la s.la.n lc, .slice ca s.ca.n cc, .int .i64 s.most], .agg #[.slice ast l.stn cst, .slice aro l.ron cro, .slice ase l.sen cse], .slice ao (onL P x.bkn).length c] w' fun e w2 => SaysIf (Tallies x k) e ∧ Below w'.heap.size w' w2) := fun w' ao c h ho => by
        have key : Just s l (onL P x.bkn).length (fun j => x.bk (onI P x.bkn j)) ↔ Tallies x k := by
          have := just_iff (o := x) (k := k) (by rw [← HSD.out, ← HLL.out]; exact HOK.out) (fun i hi => (HP2.out.2 i hi).2.2.2.2.1)
          rw [hP, HSD.out, HLL.out]
          exact this
        refine (holdsJust_any s l (onL P x.bkn).length (fun j => x.bk (onI P x.bkn j)) (fun j => C (onI P x.bkn j)) la ca ast aro ase ao lc cc cst cro cse c w' (Nat.le_trans (onL_le P _) HSH.out.2.2.1) HLH.out (rooms_cab HOK.out.2.1) (HCA.out.below h) (HST.out.below h) (HRO.out.below h) (HSE.out.below h) (RecsAt.of_own ho) (fun j hj => (HI.out _ (onI_is P x.bkn j hj).1).below h)).mono ?_
        rintro e w2 ⟨⟨b, rfl, hb⟩, hd⟩
        exact ⟨⟨b, rfl, by rw [hb, key]⟩, hd⟩
      clear hP bO hbox
      go_cut [28, 45] (fun i c wx => i = .int .i64 k ∧ Tells (Tallies x k) c ∧ Below w.heap.size w wx ∧ Below V2.heap.size V2 wx)
      case first =>
        go_region_held3 (fun w' => w'.cell? ⟨Bx, 0, none⟩ = some (.int .i64 s.id) ∧ w'.cell? ⟨Bx, 1, none⟩ = some (.string s.fr) ∧ w'.cell? ⟨Bx, 2, none⟩ = some (.string s.dst) ∧ w'.cell? ⟨Bx, 3, none⟩ = some (.int .i64 s.dep) ∧ w'.cell? ⟨Bx, 4, none⟩ = some (.int .i64 s.arr) ∧ w'.cell? ⟨Bx, 5, none⟩ = some (.slice la s.la.n lc) ∧ w'.cell? ⟨Bx, 6, none⟩ = some (.slice ca s.ca.n cc) ∧ w'.cell? ⟨Bx, 7, none⟩ = some (.int .i64 s.most) ∧
            w'.cell? ⟨w.heap.size, 1, none⟩ = some (.slice (some ⟨lb, lo, none⟩) x.ldn cld) ∧ w'.cell? ⟨w.heap.size, 2, none⟩ = some (.slice abk x.bkn cbk) ∧
            w'.cell? ⟨lb, lo + k * 3, none⟩ = some (.slice ast l.stn cst) ∧ w'.cell? ⟨lb, lo + k * 3 + 1, none⟩ = some (.slice aro l.ron cro) ∧ w'.cell? ⟨lb, lo + k * 3 + 2, none⟩ = some (.slice ase l.sen cse))
          ((refine KS.out _ ?_; exact (by repeat (first | exact Below.refl _ _ | refine Below.drew ?_ | refine after ?_ hb4 | refine after ?_ hb5))))
          (first
            | (go_at_call 65; refine Calls.mono (HC1.out _ (BW.out _ (by repeat (first | exact Below.refl _ _ | refine Below.drew ?_ | refine after ?_ hb4 | refine after ?_ hb5)))) ?_; rintro e w4 ⟨⟨ao4, c4, rfl, ho4⟩, hb4⟩)
            | (go_at_call 64; refine Calls.mono (HC2.out _ ao4 c4 (BW.out _ (by repeat (first | exact Below.refl _ _ | refine Below.drew ?_ | refine after ?_ hb4 | refine after ?_ hb5))) (own_below (w := w4) (by repeat (first | exact Below.refl _ _ | refine Below.drew ?_ | refine after ?_ hb5)) ho4)) ?_; rintro e w5 ⟨⟨t5, rfl, ht5⟩, hb5⟩))
        all_goals
          go_wp2
          go_meet
          refine ⟨rfl, ?_, BW.out _ (by repeat (first | exact Below.refl _ _ | refine Below.drew ?_ | refine after ?_ hb4 | refine after ?_ hb5)), after hbx (by repeat (first | exact Below.refl _ _ | refine Below.drew ?_ | refine after ?_ hb4 | refine after ?_ hb5))⟩
          cases t5 with
          | true => exact tells_good (ht5.1 rfl)
          | false => exact tells_bad (fun h => by have := ht5.2 h; cases this)
      case rest =>
        obtain ⟨rfl, ⟨t, rfl, ht⟩, hby, hbz⟩ := hcut
        have HT : Hid (t = false ↔ Tallies x k) := ht
        clear ht KS BW HC1 HC2 HD
        cases t with
        | true =>
          have HN : Hid (¬ OffOk x) := fun h => by have := HT.out.2 (h.2.2.2.2.2 k hlt); cases this
          go_wp2
          go_ret
          exact ⟨says_no HN.out, hby⟩
        | false =>
          have HK : Hid (Tallies x k) := HT.out.1 rfl
          clear HT
          go_wp2
          go_roundw
          case rel => exact ⟨k + 1, by omega, by go_num, fun j hj => by
            by_cases e : j = k
            · subst e; exact HK.out
            · exact HA.out j (by omega), hbz⟩
          case measure => simp [intOf]; omega
    · obtain rfl : k = x.san := by omega
      have HY : Hid (OffOk x) := ⟨HP0.out, HP1.out.1, HP2.out.1, HP1.out.2, HP2.out.2, HA.out⟩
      have hbw := after HB0.out hbel
      clear HA
      go_wp2
      go_ret
      exact ⟨says_yes HY.out, hbw⟩
end Go.Proofs.YtlelckbeoclhbaaGreat

namespace Go.Proofs.YtlelckbeoclhbaaGreat
open Go.RowKit
open Classical in
noncomputable def deckOk (p : Pairs) (n : Nat) (S : Nat → Stay) : Bool := decide (DeckI p n S)
noncomputable def freeLen (p : Pairs) (n : Nat) (S : Nat → Stay) : Nat := if deckOk p n S then p.n else 0
theorem deckOk_yes {p : Pairs} {n : Nat} {S : Nat → Stay} (h : DeckI p n S) : deckOk p n S = true := by unfold deckOk; simpa using h
theorem deckOk_no {p : Pairs} {n : Nat} {S : Nat → Stay} (h : ¬ DeckI p n S) : deckOk p n S = false := by unfold deckOk; simpa using h
theorem freeLen_yes {p : Pairs} {n : Nat} {S : Nat → Stay} (h : DeckI p n S) : freeLen p n S = p.n := by unfold freeLen; rw [deckOk_yes h]; rfl
theorem freeLen_no {p : Pairs} {n : Nat} {S : Nat → Stay} (h : ¬ DeckI p n S) : freeLen p n S = 0 := by unfold freeLen; rw [deckOk_no h]; rfl
theorem freeLen_le (p : Pairs) (n : Nat) (S : Nat → Stay) : freeLen p n S ≤ 4 := by
  by_cases h : DeckI p n S
  · rw [freeLen_yes h]; exact h.1.1
  · rw [freeLen_no h]; omega
def FreeRes (w' : World) (base : Nat) (p : Pairs) (n : Nat) (S : Nat → Stay) (e : Ending) : Prop :=
  ∃ v, e = .returned (.tuple #[v, .bool (deckOk p n S)]) ∧ w'.ownsRow base 3 1 v (freeLen p n S) (intList (left p S n) (freeLen p n S))
theorem freeRes_no {w : World} {base : Nat} {p : Pairs} {n : Nat} {S : Nat → Stay} (h : ¬ DeckI p n S) : FreeRes w base p n S (.returned (.tuple #[.slice none 0 0, .bool false])) :=
  ⟨_, by rw [deckOk_no h], by rw [freeLen_no h]; exact ⟨rfl, .inl ⟨rfl, rfl⟩⟩⟩
theorem freeRes_yes {w : World} {base m : Nat} {p : Pairs} {n : Nat} {S : Nat → Stay} {v : Value} (h : DeckI p n S) (hm : p.n = m) (ho : w.ownsRow base 3 1 v m (intList (left p S n) m)) : FreeRes w base p n S (.returned (.tuple #[v, .bool true])) :=
  ⟨_, by rw [deckOk_yes h], by rw [freeLen_yes h, hm]; exact ho⟩
end Go.Proofs.YtlelckbeoclhbaaGreat

namespace Go.Proofs.YtlelckbeoclhbaaGreat
open Go.RowKit
theorem four_ints {w : World} {f t m : Nat} {F G : Nat → Int} (h : w.heap[f]? = some (.cells #[.int .i64 (F 0), .int .i64 (F 1), .int .i64 (F 2), .int .i64 (F 3)] t (0, 0))) (hm : m ≤ 4) (hF : ∀ k, k < m → F k = G k) : IntsAt w (some ⟨f, 0, none⟩) m G := by
  intro k hk
  refine ⟨f, 0, rfl, ?_⟩
  rw [Nat.zero_add, ← hF k hk]
  have : k = 0 ∨ k = 1 ∨ k = 2 ∨ k = 3 := by omega
  rcases this with rfl | rfl | rfl | rfl
  · exact blk_cell h 0 _ rfl
  · exact blk_cell h 1 _ rfl
  · exact blk_cell h 2 _ rfl
  · exact blk_cell h 3 _ rfl
theorem implFree_any (ao bo : Option Addr) (m mc n c : Nat) (p : Pairs) (S : Nat → Stay) (w : World) (hl : p.n = m) (hm : m ≤ 1048576) (hn : n ≤ 1048576) (hc : n ≤ c) (hx : PairsAt w ao p) (hz : StaysAt w bo n S) :
    Calls Tryz.prog 121 #[.slice ao m mc, .slice bo n c] w fun e w' => FreeRes w' w.heap.size p n S e ∧ Below w.heap.size w w' := by
  have HX : Hid (PairsAt w ao p) := hx
  have HZ : Hid (StaysAt w bo n S) := hz
  have HL : Hid (p.n = m) := hl
  clear hx hz hl
  go_enter Tryz.func121, Tryz.ntmps121
  go_wp2_with fail
  refine (freeOnDeck_any ao bo m mc n c p S _ HL.out hm hn hc HX.out HZ.out).mono ?_
  rintro e w1 ⟨hans, hb1⟩
  unfold FreeAns four at hans
  rcases hans with ⟨hd, rfl⟩ | ⟨hd, rfl⟩
  · have HD : Hid (DeckI p n S) := hd
    have hm4 : m ≤ 4 := by rw [← HL.out]; exact hd.1.1
    clear hd
    have i1 : (0 : Int) ≤ (m : Int) := by omega
    have i2 : (m : Int) ≤ 4 := by omega
    have hb2 := push hb1 (.cells #[.int .i64 (freeAt p S n 0), .int .i64 (freeAt p S n 1), .int .i64 (freeAt p S n 2), .int .i64 (freeAt p S n 3)] 204)
    have HI : Hid (IntsAt (w1.alloc (.cells #[.int .i64 (freeAt p S n 0), .int .i64 (freeAt p S n 1), .int .i64 (freeAt p S n 2), .int .i64 (freeAt p S n 3)] 204)) (some ⟨w1.heap.size, 0, none⟩) m (left p S n)) := four_ints (heap_alloc_new w1 _) hm4 (fun k hk => if_pos (by rw [HL.out]; exact hk))
    go_wp2_with (first | (go_at_call 66; refine (cloneInts _ m _ (left p S n) _ hm HI.out).mono ?_; rintro e w2 ⟨⟨v, rfl, ho⟩, hb3⟩))
    exact bodyPost_ret (v := .tuple #[v, .bool true]) (by simp [results, Tryz.results121, go_sem]) rfl ⟨freeRes_yes HD.out HL.out (own_base ho hb2.size), after hb2 hb3⟩
  · have HD : Hid (¬ DeckI p n S) := hd
    clear hd
    go_wp2
    exact bodyPost_ret (v := .tuple #[.slice none 0 0, .bool false]) (by simp [results, Tryz.results121, go_sem]) rfl ⟨freeRes_no HD.out, push hb1 _⟩
end Go.Proofs.YtlelckbeoclhbaaGreat

namespace Go.Proofs.YtlelckbeoclhbaaGreat
open Go.RowKit Classical
def OnV (s : Sail) (l : Load) (base ti : Nat) (e : Ending) (w : World) : Prop :=
  ∃ v1 v2, e = .returned (.tuple #[v1, v2, .int .i64 (s.most - sits l.se l.sen)]) ∧ w.ownsRow base ti 1 v1 s.la.n (intList (left s.la l.st l.stn) s.la.n) ∧ w.ownsRow base ti 1 v2 s.ca.n (intList (leftR s.ca l.ro l.ron) s.ca.n) ∧ ∀ b, v1.ownBlock = some b → v2.ownBlock ≠ some b
theorem leftOn_any (s : Sail) (l : Load) (la ca ast aro ase : Option Addr) (lc cc cst cro cse : Nat) (w : World) (hp : LoadOk s l) (hss : s.la.n ≤ 1048576 ∧ s.ca.n ≤ 1048576) (hlh : Load.Short l 1048576) (hla : PairsAt w la s.la) (hca : PairsAt w ca s.ca)
    (hst : StaysAt w ast l.stn l.st ∧ l.stn ≤ cst) (hro : RoomsAt w aro l.ron l.ro ∧ l.ron ≤ cro) (hse : SeatsAt w ase l.sen l.se ∧ l.sen ≤ cse) :
    Calls Tryz.prog 68 #[.agg #[.int .i64 s.id, .string s.fr, .string s.dst, .int .i64 s.dep, .int .i64 s.arr, .slice la s.la.n lc, .slice ca s.ca.n cc, .int .i64 s.most], .agg #[.slice ast l.stn cst, .slice aro l.ron cro, .slice ase l.sen cse]] w fun e w' => OnV s l w.heap.size 3 e w' ∧ Below w.heap.size w w' := by
  have HP : Hid (LoadOk s l) := hp
  have HSS : Hid (s.la.n ≤ 1048576 ∧ s.ca.n ≤ 1048576) := hss
  have HLH : Hid (Load.Short l 1048576) := hlh
  have HLA : Hid (PairsAt w la s.la) := hla
  have HCA : Hid (PairsAt w ca s.ca) := hca
  have HST : Hid (StaysAt w ast l.stn l.st ∧ l.stn ≤ cst) := hst
  have HRO : Hid (RoomsAt w aro l.ron l.ro ∧ l.ron ≤ cro) := hro
  have HSE : Hid (SeatsAt w ase l.sen l.se ∧ l.sen ≤ cse) := hse
  clear hp hss hlh hla hca hst hro hse
  have hb3 : Below w.heap.size w ((w.alloc (.cells #[.int .i64 s.id, .string s.fr, .string s.dst, .int .i64 s.dep, .int .i64 s.arr, .slice la s.la.n lc, .slice ca s.ca.n cc, .int .i64 s.most] 54)).alloc (.cells #[.slice ast l.stn cst, .slice aro l.ron cro, .slice ase l.sen cse] 62)) := push (push (Below.refl _ _) _) _
  have bS : ((w.alloc (.cells #[.int .i64 s.id, .string s.fr, .string s.dst, .int .i64 s.dep, .int .i64 s.arr, .slice la s.la.n lc, .slice ca s.ca.n cc, .int .i64 s.most] 54)).alloc (.cells #[.slice ast l.stn cst, .slice aro l.ron cro, .slice ase l.sen cse] 62)).heap[w.heap.size]? = some (.cells #[.int .i64 s.id, .string s.fr, .string s.dst, .int .i64 s.dep, .int .i64 s.arr, .slice la s.la.n lc, .slice ca s.ca.n cc, .int .i64 s.most] 54 (0, 0)) := blk_alloc (heap_alloc_new w _) _
  have bL : ((w.alloc (.cells #[.int .i64 s.id, .string s.fr, .string s.dst, .int .i64 s.dep, .int .i64 s.arr, .slice la s.la.n lc, .slice ca s.ca.n cc, .int .i64 s.most] 54)).alloc (.cells #[.slice ast l.stn cst, .slice aro l.ron cro, .slice ase l.sen cse] 62)).heap[w.heap.size + 1]? = some (.cells #[.slice ast l.stn cst, .slice aro l.ron cro, .slice ase l.sen cse] 62 (0, 0)) := by simpa using heap_alloc_new (w.alloc _) _
  go_enter Tryz.func68, Tryz.ntmps68
  go_wp2_with fail
  generalize (w.alloc (.cells #[.int .i64 s.id, .string s.fr, .string s.dst, .int .i64 s.dep, .int .i64 s.arr, .slice la s.la.n lc, .slice ca s.ca.n cc, .int .i64 s.most] 54)).alloc (.cells #[.slice ast l.stn cst, .slice aro l.ron cro, .slice ase l.sen cse] 62) = V at hb3 bS bL ⊢
  refine (implFree_any la ast s.la.n lc l.stn cst s.la l.st _ rfl HSS.out.1 HLH.out.1 HST.out.2 (HLA.out.below hb3) (HST.out.1.below hb3)).mono ?_
  rintro e W1 ⟨⟨v1, rfl, ho1⟩, hbv⟩
  rw [freeLen_yes ((deck_iff _ _ _).1 HP.out.1)] at ho1
  rw [deckOk_yes ((deck_iff _ _ _).1 HP.out.1)]
  have HO1 : Hid (W1.ownsRow w.heap.size 3 1 v1 s.la.n (intList (left s.la l.st l.stn) s.la.n)) := own_base ho1 hb3.size
  have bS1 := blk_below bS hbv
  have bL1 := blk_below bL hbv
  have hb4 := after hb3 hbv
  clear bS bL hb3 hbv ho1
  have s6 := blk_cell bS1 6 _ rfl
  have l1 := blk_cell bL1 1 _ rfl
  go_wp2_with fail
  refine (implBerths_any ca aro s.ca.n cc l.ron cro s.ca l.ro _ rfl HSS.out.2 HLH.out.2.1 HRO.out.2 (HCA.out.below hb4) (HRO.out.1.below hb4)).mono ?_
  rintro e W2 ⟨⟨v2, rfl, ho2⟩, hbv⟩
  rw [berthsLen_yes HP.out.2.1] at ho2
  rw [roomsOk_yes HP.out.2.1]
  have HO2 : Hid (W2.ownsRow w.heap.size 3 1 v2 s.ca.n (intList (leftR s.ca l.ro l.ron) s.ca.n)) := own_base ho2 hb4.size
  have HAP : Hid (∀ b, v1.ownBlock = some b → v2.ownBlock ≠ some b) := fun b h1 h2 => by
    have a := (HO1.out.lt b h1).2
    have c := (ho2.lt b h2).1
    omega
  have HO3 : Hid (W2.ownsRow w.heap.size 3 1 v1 s.la.n (intList (left s.la l.st l.stn) s.la.n)) := own_below hbv HO1.out
  have bS2 := blk_below bS1 hbv
  have bL2 := blk_below bL1 hbv
  have hb5 := after hb4 hbv
  clear bS1 bL1 hb4 hbv s6 l1 ho2 HO1
  have s7 := blk_cell bS2 7 _ rfl
  have l2 := blk_cell bL2 2 _ rfl
  go_wp2_with fail
  refine (freeSeats_any s.most ase l.sen cse l.se _ (by have := HLH.out.2.2; omega) HSE.out.2 (HSE.out.1.below hb5)).mono ?_
  rintro e W3 ⟨he, hbv⟩
  have he2 : e = .returned (.tuple #[.int .i64 (s.most - sits l.se l.sen), .bool true]) := by
    rcases he with ⟨_, rfl⟩ | ⟨h, _⟩
    · rfl
    · exact absurd HP.out.2.2 h
  subst he2
  clear he s7 l2 bS2 bL2
  go_wp2
  exact bodyPost_ret (v := .tuple #[v1, v2, .int .i64 (s.most - sits l.se l.sen)]) (by simp [results, Tryz.results68, go_sem]) rfl ⟨⟨v1, v2, rfl, own_below hbv HO3.out, own_below hbv HO2.out, HAP.out⟩, after hb5 hbv⟩
end Go.Proofs.YtlelckbeoclhbaaGreat
