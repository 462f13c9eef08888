/-
  OWN TEXT: SpecPc, LOffice, LOffN.
-/
import Derived.Deep.CutBlock
import Derived.Test.YtcioofnmhfehaaaGreatB19
import Derived.Test.YtcioofnmhfehaaaGreatB20
import Derived.Test.YtcioofnmhfehaaaGreatB11
namespace Go.Proofs.YtcioofnmhfehaaaGreat
open Go.RowKit Classical

/-- A row of numbers is not a block of another type. -/
theorem row_type {w : World} {base e size n b t : Nat} {v : Value} {xs : List Value} {c : Array Value} {f : Nat × Nat} (ho : w.ownsRow base e size v n xs) (hb : w.heap[b]? = some (.cells c t f)) (hn : e ≠ t) : v.ownBlock ≠ some b := by
  intro e1
  rcases ho.2 with ⟨rfl, _⟩ | ⟨g, cap, cur, rfl, _, hg, _⟩
  · simp [Value.ownBlock] at e1
  · simp only [Value.ownBlock, Option.some.injEq] at e1
    subst e1
    rw [hb] at hg
    simp only [Option.some.injEq, Obj.cells.injEq] at hg
    exact hn hg.2.1.symm

set_option maxHeartbeats 12800000 in
set_option maxRecDepth 100000 in
theorem specPc_any (x y : Off) (cs ds : List Value) (w : World) (hs : Off.Short x 1048576) (ht : Off.Short y 1048576) (hx : Off.Is w cs x) (hy : Off.Is w ds y) :
    Calls Tryz.prog 5 #[.agg cs.toArray, .agg ds.toArray] w fun e w' => (∃ v, e = .returned (.tuple #[v, .bool (pcOk x y)]) ∧ w'.ownsRow w.heap.size 3 1 v (pcList x y).length (cellsI (pcList x y))) ∧ Below w.heap.size w w' := by
  obtain ⟨asa, csa, ald, cld, abk, cbk, rfl, hsa, s1, hld, s2, hbk, s3⟩ := hx
  obtain ⟨asa', csa', ald', cld', abk', cbk', rfl, hsa', s4, hld', s5, hbk', s6⟩ := hy
  clear s1 s2 s3 s4 s5 s6
  obtain ⟨i0, hi0, hz0, hz1, hz2⟩ := info_parts Tryz.infoInt
  have HX : Hid (SailsAt w asa x.san x.sa ∧ LoadsAt w ald x.ldn x.ld) := ⟨hsa, hld⟩
  have HY : Hid (SailsAt w asa' y.san y.sa ∧ LoadsAt w ald' y.ldn y.ld) := ⟨hsa', hld'⟩
  have HS : Hid (Off.Short x 1048576) := hs
  have HT : Hid (Off.Short y 1048576) := ht
  have hn : x.san ≤ 1048576 := hs.1.1
  have hm : y.san ≤ 1048576 := ht.1.1
  clear hsa hld hbk hsa' hld' hbk' hs ht
  obtain ⟨q, hq⟩ : ∃ q : Bool, q = pcOk x y := ⟨_, rfl⟩
  have HQ : Hid (q = true ↔ PcOk x y) := by rw [hq]; exact decide_eq_true_iff
  rw [← hq]
  clear hq
  obtain ⟨L, hL⟩ : ∃ L, L = pcList x y := ⟨_, rfl⟩
  have HPL : Hid (L = pcList x y) := hL
  rw [← hL]
  clear hL
  have HNO : Hid (¬ PcOk x y → q = false ∧ L = []) := fun h => ⟨by
    cases q with
    | false => rfl
    | true => exact absurd (HQ.out.1 rfl) h, by rw [HPL.out, pcList_no h]⟩
  have hb0 : Below w.heap.size w ((w.alloc (.cells #[.slice asa x.san csa, .slice ald x.ldn cld, .slice abk x.bkn cbk] 35)).alloc (.cells #[.slice asa' y.san csa', .slice ald' y.ldn cld', .slice abk' y.bkn cbk'] 35)) := push (push (Below.refl _ _) _) _
  have bA : ((w.alloc (.cells #[.slice asa x.san csa, .slice ald x.ldn cld, .slice abk x.bkn cbk] 35)).alloc (.cells #[.slice asa' y.san csa', .slice ald' y.ldn cld', .slice abk' y.bkn cbk'] 35)).heap[w.heap.size]? = some (.cells #[.slice asa x.san csa, .slice ald x.ldn cld, .slice abk x.bkn cbk] 35 (0, 0)) := blk_alloc (heap_alloc_new w _) _
  have bB : ((w.alloc (.cells #[.slice asa x.san csa, .slice ald x.ldn cld, .slice abk x.bkn cbk] 35)).alloc (.cells #[.slice asa' y.san csa', .slice ald' y.ldn cld', .slice abk' y.bkn cbk'] 35)).heap[w.heap.size + 1]? = some (.cells #[.slice asa' y.san csa', .slice ald' y.ldn cld', .slice abk' y.bkn cbk'] 35 (0, 0)) := by simpa using heap_alloc_new (w.alloc _) _
  go_enter Tryz.func5, Tryz.ntmps5
  go_wp2_with fail
  generalize (w.alloc (.cells #[.slice asa x.san csa, .slice ald x.ldn cld, .slice abk x.bkn cbk] 35)).alloc (.cells #[.slice asa' y.san csa', .slice ald' y.ldn cld', .slice abk' y.bkn cbk'] 35) = V at hb0 bA bB ⊢
  refine (specTab_any asa x.san csa x.sa _ hn HS.out.1.2 (HX.out.1.below hb0)).mono ?_
  rintro e V1 ⟨⟨t0, rfl, ht0⟩, hb1⟩
  have HT0 : Hid (t0 = true ↔ GoodTab x.san x.sa) := ht0
  replace bA := blk_below bA hb1
  replace bB := blk_below bB hb1
  replace hb0 := after hb0 hb1
  clear hb1 ht0 V
  cases t0 with
  | false =>
    obtain ⟨hqf, hLn⟩ := HNO.out (fun h => absurd (HT0.out.2 h.1) (by decide))
    subst hqf hLn
    clear HQ HT0 HPL HNO
    go_wp2
    go_ret2
    exact ⟨⟨_, rfl, World.ownsRow_nil _ _ _ _⟩, hb0⟩
  | true =>
  have HG : Hid (GoodTab x.san x.sa) := HT0.out.1 rfl
  clear HT0
  have x0 := blk_cell bA 0 _ rfl
  have y0 := blk_cell bB 0 _ rfl
  obtain ⟨u, hu⟩ : ∃ u : Bool, u = sailsEq x.san y.san x.sa y.sa := ⟨_, rfl⟩
  have HU : Hid (u = true ↔ SailsEq x.san y.san x.sa y.sa) := by rw [hu]; exact decide_eq_true_iff
  have HUE : Hid (sailsEq x.san y.san x.sa y.sa = u) := hu.symm
  clear hu
  go_wp2_with fail
  refine (l9Sailings_any asa asa' x.san csa y.san csa' x.sa y.sa _ hn hm HS.out.1.2 HT.out.1.2 (HX.out.1.below hb0) (HY.out.1.below hb0)).mono ?_
  rintro e V2 ⟨he, hb1⟩
  rw [HUE.out] at he
  subst he
  replace bA := blk_below bA hb1
  replace bB := blk_below bB hb1
  replace hb0 := after hb0 hb1
  clear hb1 HUE x0 y0 V1
  cases u with
  | false =>
    obtain ⟨hqf, hLn⟩ := HNO.out (fun h => absurd (HU.out.2 h.2.1) (by decide))
    subst hqf hLn
    clear HQ HU HPL HNO
    go_wp2
    go_ret2
    exact ⟨⟨_, rfl, World.ownsRow_nil _ _ _ _⟩, hb0⟩
  | true =>
  have HE : Hid (SailsEq x.san y.san x.sa y.sa) := HU.out.1 rfl
  clear HU
  have x0 := blk_cell bA 0 _ rfl
  have x1 := blk_cell bA 1 _ rfl
  have y1 := blk_cell bB 1 _ rfl
  by_cases e1 : x.ldn = x.san
  case neg =>
    obtain ⟨hqf, hLn⟩ := HNO.out (fun h => e1 h.2.2.1)
    subst hqf hLn
    have hh : ((x.ldn : Int) = (x.san : Int)) = False := by simp; omega
    have hh2 : ((x.ldn : Int) != (x.san : Int)) = true := bne_iff_ne.2 (fun e => e1 (by omega))
    clear HQ e1 HPL HNO
    go_wp2
    go_ret2
    exact ⟨⟨_, rfl, World.ownsRow_nil _ _ _ _⟩, hb0⟩
  have hh1 : ((x.ldn : Int) != (x.san : Int)) = false := by rw [e1]; exact bne_self_eq_false _
  by_cases e2 : y.ldn = x.san
  case neg =>
    obtain ⟨hqf, hLn⟩ := HNO.out (fun h => e2 (h.2.2.2.trans h.2.1.1.symm))
    subst hqf hLn
    have hh : ((y.ldn : Int) = (x.san : Int)) = False := by simp; omega
    have hh2 : ((y.ldn : Int) != (x.san : Int)) = true := bne_iff_ne.2 (fun e => e2 (by omega))
    clear HQ e1 e2 HPL HNO
    go_wp2
    go_ret2
    exact ⟨⟨_, rfl, World.ownsRow_nil _ _ _ _⟩, hb0⟩
  have hh2 : ((y.ldn : Int) != (x.san : Int)) = false := by rw [e2]; exact bne_self_eq_false _
  have HOK : Hid (PcOk x y) := ⟨HG.out, HE.out, e1, e2.trans HE.out.1⟩
  have hqt : q = true := HQ.out.2 HOK.out
  subst hqt
  have HLL : Hid (L = pcTo x.sa x.ld y.ld x.san) := by rw [HPL.out]; exact pcList_yes HOK.out
  have HEE : Hid (x.ldn = x.san ∧ y.ldn = x.san) := ⟨e1, e2⟩
  have n6 : x.san ≤ 6 := HG.out.1
  clear HQ e1 e2 HPL HNO HG HE
  go_wp2
  clear hh1 hh2 x0 x1 y1
  go_loopw [6, 52] (fun v i wr => ∃ k : Nat, k ≤ x.san ∧ i = .int .i64 k ∧ wr.ownsRow w.heap.size 3 1 v (pcTo x.sa x.ld y.ld k).length (cellsI (pcTo x.sa x.ld y.ld k)) ∧ wr.heap[w.heap.size]? = some (.cells #[.slice asa x.san csa, .slice ald x.ldn cld, .slice abk x.bkn cbk] 35 (0, 0)) ∧ wr.heap[w.heap.size + 1]? = some (.cells #[.slice asa' y.san csa', .slice ald' y.ldn cld', .slice abk' y.bkn cbk'] 35 (0, 0)) ∧ Below w.heap.size w wr) (fun _ i _ => x.san - (intOf i).toNat)
  case atStart => exact ⟨0, Nat.zero_le _, rfl, World.ownsRow_nil _ _ _ _, bA, bB, hb0⟩
  case round =>
    clear bA bB hb0
    obtain ⟨k, hk, rfl, hown, bA, bB, hbel⟩ := hrel
    by_cases hlt : k < x.san
    case neg =>
      obtain rfl : k = x.san := by omega
      rw [← HLL.out] at hown
      go_wp2
      go_ret2
      exact ⟨⟨_, rfl, hown⟩, hbel⟩
    obtain ⟨b, off, la, lc, ca, cc, rfl, g0, g1, g2, g3, g4, g5, g6, g7, k1, k2, z1, z2⟩ := HX.out.1 k hlt
    have l1 : b < w.heap.size := World.block_lt_of_cell? w _ g0
    clear k1 k2 z1 z2
    obtain ⟨D, hD, hJ⟩ := HX.out.2
    obtain ⟨D', hD', hJ'⟩ := HY.out.2
    have hk2 : k < x.ldn := by have := HEE.out.1; omega
    have hk3 : k < y.ldn := by have := HEE.out.2; omega
    obtain ⟨lb, lo, ea, hc⟩ := hD k hk2
    obtain ⟨lb', lo', ea', hc'⟩ := hD' k hk3
    obtain ⟨ast, cst, aro, cro, ase, cse, eC, hst, sst, hro, sro, hse, sse⟩ := hJ k hk2
    obtain ⟨bst, dst, bro, dro, bse, dse, eC', hst', sst', hro', sro', hse', sse'⟩ := hJ' k hk3
    have l2 : lb < w.heap.size := World.block_lt_of_cell? w _ (hc 0 (by decide))
    have l3 : lb' < w.heap.size := World.block_lt_of_cell? w _ (hc' 0 (by decide))
    have HC : Hid ((w.cell? ⟨lb, lo + k * 3, none⟩ = some (.slice ast (x.ld k).stn cst) ∧ w.cell? ⟨lb, lo + k * 3 + 1, none⟩ = some (.slice aro (x.ld k).ron cro) ∧ w.cell? ⟨lb, lo + k * 3 + 2, none⟩ = some (.slice ase (x.ld k).sen cse)) ∧ w.cell? ⟨lb', lo' + k * 3, none⟩ = some (.slice bst (y.ld k).stn dst) ∧ w.cell? ⟨lb', lo' + k * 3 + 1, none⟩ = some (.slice bro (y.ld k).ron dro) ∧ w.cell? ⟨lb', lo' + k * 3 + 2, none⟩ = some (.slice bse (y.ld k).sen dse)) :=
      ⟨⟨by have := hc 0 (by decide); rw [eC] at this; exact this, by have := hc 1 (by decide); rw [eC] at this; exact this, by have := hc 2 (by decide); rw [eC] at this; exact this⟩, by have := hc' 0 (by decide); rw [eC'] at this; exact this, by have := hc' 1 (by decide); rw [eC'] at this; exact this, by have := hc' 2 (by decide); rw [eC'] at this; exact this⟩
    have HAT : Hid ((StaysAt w ast (x.ld k).stn (x.ld k).st ∧ RoomsAt w aro (x.ld k).ron (x.ld k).ro ∧ SeatsAt w ase (x.ld k).sen (x.ld k).se) ∧ StaysAt w bst (y.ld k).stn (y.ld k).st ∧ RoomsAt w bro (y.ld k).ron (y.ld k).ro ∧ SeatsAt w bse (y.ld k).sen (y.ld k).se) := ⟨⟨hst, hro, hse⟩, hst', hro', hse'⟩
    have hsh1 := HS.out.2.1.2 k hk2
    have hsh2 := HT.out.2.1.2 k hk3
    have HSH : Hid (Load.Short (x.ld k) 1048576 ∧ Load.Short (y.ld k) 1048576) := ⟨hsh1, hsh2⟩
    have HID : Hid (1 ≤ (x.sa k).id ∧ (x.sa k).id ≤ 99) := (HOK.out.1.2 k hlt).1.1
    subst ea ea'
    clear hD hJ hD' hJ' hc hc' eC eC' hst sst hro sro hse sse hst' sst' hro' sro' hse' sse' hsh1 hsh2
    have i1 : (0 : Int) ≤ (k : Int) := by omega
    have i2 : (k : Int) < (x.ldn : Int) := by omega
    have i3 : (k : Int) < (y.ldn : Int) := by omega
    have c0 : wr.cell? ⟨b, off + k * 8, none⟩ = some (.int .i64 (x.sa k).id) := (hbel.cell (p := ⟨b, off + k * 8, none⟩) l1).trans g0
    have c1 : wr.cell? ⟨b, off + k * 8 + 1, none⟩ = some (.string (x.sa k).fr) := (hbel.cell (p := ⟨b, off + k * 8 + 1, none⟩) l1).trans g1
    have c2 : wr.cell? ⟨b, off + k * 8 + 2, none⟩ = some (.string (x.sa k).dst) := (hbel.cell (p := ⟨b, off + k * 8 + 2, none⟩) l1).trans g2
    have c3 : wr.cell? ⟨b, off + k * 8 + 3, none⟩ = some (.int .i64 (x.sa k).dep) := (hbel.cell (p := ⟨b, off + k * 8 + 3, none⟩) l1).trans g3
    have c4 : wr.cell? ⟨b, off + k * 8 + 4, none⟩ = some (.int .i64 (x.sa k).arr) := (hbel.cell (p := ⟨b, off + k * 8 + 4, none⟩) l1).trans g4
    have c5 : wr.cell? ⟨b, off + k * 8 + 5, none⟩ = some (.slice la (x.sa k).la.n lc) := (hbel.cell (p := ⟨b, off + k * 8 + 5, none⟩) l1).trans g5
    have c6 : wr.cell? ⟨b, off + k * 8 + 6, none⟩ = some (.slice ca (x.sa k).ca.n cc) := (hbel.cell (p := ⟨b, off + k * 8 + 6, none⟩) l1).trans g6
    have c7 : wr.cell? ⟨b, off + k * 8 + 7, none⟩ = some (.int .i64 (x.sa k).most) := (hbel.cell (p := ⟨b, off + k * 8 + 7, none⟩) l1).trans g7
    clear g0 g1 g2 g3 g4 g5 g6 g7
    go_upto_region 7 with fail
    generalize hG : wr.alloc (.cells #[.int .i64 (x.sa k).id, .string (x.sa k).fr, .string (x.sa k).dst, .int .i64 (x.sa k).dep, .int .i64 (x.sa k).arr, .slice la (x.sa k).la.n lc, .slice ca (x.sa k).ca.n cc, .int .i64 (x.sa k).most] 50) = W1 at *
    have bS : W1.heap[wr.heap.size]? = some (.cells #[.int .i64 (x.sa k).id, .string (x.sa k).fr, .string (x.sa k).dst, .int .i64 (x.sa k).dep, .int .i64 (x.sa k).arr, .slice la (x.sa k).la.n lc, .slice ca (x.sa k).ca.n cc, .int .i64 (x.sa k).most] 50 (0, 0)) := by rw [← hG]; exact heap_alloc_new _ _
    have hq1 : Below wr.heap.size wr W1 := by rw [← hG]; exact push (Below.refl _ _) _
    have hb1 : Below w.heap.size w W1 := after hbel hq1
    clear hG c0 c1 c2 c3 c4 c5 c6 c7
    have za := blk_cell (blk_below bA hq1) 1 _ rfl
    have z0 := (hb1.cell (p := ⟨lb, lo + k * 3, none⟩) l2).trans HC.out.1.1
    have z1 := (hb1.cell (p := ⟨lb, lo + k * 3 + 1, none⟩) l2).trans HC.out.1.2.1
    have z2 := (hb1.cell (p := ⟨lb, lo + k * 3 + 2, none⟩) l2).trans HC.out.1.2.2
    go_upto_region 8 with fail
    generalize hG : W1.alloc (.cells #[.slice ast (x.ld k).stn cst, .slice aro (x.ld k).ron cro, .slice ase (x.ld k).sen cse] 55) = W2 at *
    have bX : W2.heap[W1.heap.size]? = some (.cells #[.slice ast (x.ld k).stn cst, .slice aro (x.ld k).ron cro, .slice ase (x.ld k).sen cse] 55 (0, 0)) := by rw [← hG]; exact heap_alloc_new _ _
    have hq2 : Below W1.heap.size W1 W2 := by rw [← hG]; exact push (Below.refl _ _) _
    have hb2 : Below w.heap.size w W2 := after hb1 hq2
    clear hG za z0 z1 z2
    have za := blk_cell (blk_below bB (after hq1 hq2)) 1 _ rfl
    have z0 := (hb2.cell (p := ⟨lb', lo' + k * 3, none⟩) l3).trans HC.out.2.1
    have z1 := (hb2.cell (p := ⟨lb', lo' + k * 3 + 1, none⟩) l3).trans HC.out.2.2.1
    have z2 := (hb2.cell (p := ⟨lb', lo' + k * 3 + 2, none⟩) l3).trans HC.out.2.2.2
    go_upto_region 9 with fail
    generalize hG : W2.alloc (.cells #[.slice bst (y.ld k).stn dst, .slice bro (y.ld k).ron dro, .slice bse (y.ld k).sen dse] 55) = W3 at *
    have bY : W3.heap[W2.heap.size]? = some (.cells #[.slice bst (y.ld k).stn dst, .slice bro (y.ld k).ron dro, .slice bse (y.ld k).sen dse] 55 (0, 0)) := by rw [← hG]; exact heap_alloc_new _ _
    have hq3 : Below W2.heap.size W2 W3 := by rw [← hG]; exact push (Below.refl _ _) _
    have hb3 : Below w.heap.size w W3 := after hb2 hq3
    have hq : Below wr.heap.size wr W3 := after (after hq1 hq2) hq3
    clear hG za z0 z1 z2
    replace bS := blk_below bS (after hq2 hq3)
    replace bX := blk_below bX hq3
    replace bA := blk_below bA hq
    replace bB := blk_below bB hq
    replace hown := own_below hq hown
    clear hq1 hq2 hq3 hb1 hb2 hq hbel
    obtain ⟨sB, hsB⟩ : ∃ u, u = wr.heap.size := ⟨_, rfl⟩
    obtain ⟨xB, hxB⟩ : ∃ u, u = W1.heap.size := ⟨_, rfl⟩
    obtain ⟨yB, hyB⟩ : ∃ u, u = W2.heap.size := ⟨_, rfl⟩
    rw [← hsB] at bS ⊢
    rw [← hxB] at bX ⊢
    rw [← hyB] at bY ⊢
    clear hsB hxB hyB
    have xr := blk_cell bX 0 _ rfl
    have yr := blk_cell bY 0 _ rfl
    have n0 : (x.ld k).stn ≤ 1048576 := HSH.out.1.1
    have m0 : (y.ld k).stn ≤ 1048576 := HSH.out.2.1
    obtain ⟨e0, he0⟩ : ∃ e : Bool, e = (((x.ld k).stn : Int) == ((y.ld k).stn : Int)) := ⟨_, rfl⟩
    have HE0 : Hid (e0 = true ↔ (x.ld k).stn = (y.ld k).stn) := by rw [he0, beq_iff_eq]; exact ⟨fun h => by omega, fun h => by omega⟩
    have hee0 := he0.symm
    clear he0
    go_upto_block 2 with fail
    clear xr yr hee0
    go_cut [11, 12] from 74 to 94 (fun u _ wx => ∃ (c : Bool) (Zq : World), Zq = wx ∧ u = .bool c ∧ Hid (c = true ↔ staysAlike (x.ld k).stn (y.ld k).stn (x.ld k).st (y.ld k).st) ∧ Below W3.heap.size W3 Zq)
    case first =>
      go_wp2_with fail
      go_loopw [11, 12] (fun u i wz => ∃ (c : Bool) (p : Nat), u = .bool c ∧ p ≤ (x.ld k).stn ∧ i = .int .i64 p ∧ Hid (c = true ↔ (x.ld k).stn = (y.ld k).stn ∧ ∀ j, j < p → (x.ld k).st j = (y.ld k).st j) ∧ Below W3.heap.size W3 wz) (fun _ i _ => (x.ld k).stn - (intOf i).toNat)
      case atStart => exact ⟨e0, 0, rfl, Nat.zero_le _, rfl, (HE0.out.trans ⟨fun h => ⟨h, fun j hj => absurd hj (Nat.not_lt_zero _)⟩, fun h => h.1⟩), Below.refl _ _⟩
      case round =>
        obtain ⟨c, p, rfl, hp, rfl, HCC, hbz⟩ := hrel
        obtain ⟨wz, hwz⟩ : ∃ u, u = wr := ⟨_, rfl⟩
        have xr := blk_cell (blk_below bX hbz) 0 _ rfl
        have yr := blk_cell (blk_below bY hbz) 0 _ rfl
        by_cases hlp : p < (x.ld k).stn
        case neg =>
          obtain rfl : p = (x.ld k).stn := by omega
          clear hwz
          go_wp2
          go_meet
          exact ⟨c, _, rfl, rfl, HCC.out, hbz⟩
        cases c with
        | false =>
          clear hwz
          go_wp2
          go_meet
          exact ⟨false, _, rfl, rfl, ⟨(fun h => by cases h), fun h => HCC.out.2 ⟨h.1, fun j hj => h.2 j (by omega)⟩⟩, hbz⟩
        | true =>
          have hcc := HCC.out.1 rfl
          have hnm : (x.ld k).stn = (y.ld k).stn := hcc.1
          have hall := hcc.2
          have HALL : Hid (∀ j, j < p → (x.ld k).st j = (y.ld k).st j) := hall
          clear hcc hall HCC
          obtain ⟨bx, ox, ex, g0, g1, g2, g3⟩ := HAT.out.1.1 p hlp
          obtain ⟨by_, oy, ey, f0, f1, f2, f3⟩ := HAT.out.2.1 p (by omega)
          have lx : bx < w.heap.size := World.block_lt_of_cell? w _ g0
          have ly : by_ < w.heap.size := World.block_lt_of_cell? w _ f0
          have q1 : (0 : Int) ≤ (p : Int) := by omega
          have q2 : (p : Int) < ((x.ld k).stn : Int) := by omega
          have q3 : (p : Int) < ((y.ld k).stn : Int) := by omega
          have hbq := after hb3 hbz
          have ba : ∀ g : Grown wr, g.val.cell? ⟨xB, 0, none⟩ = some (.slice (some ⟨bx, ox, none⟩) (x.ld k).stn cst) := fun g => by rw [← ex]; exact blk_cell (blk_below bX (hbz.trans (g.bel.mono hbz.size))) 0 _ rfl
          have bb : ∀ g : Grown wr, g.val.cell? ⟨yB, 0, none⟩ = some (.slice (some ⟨by_, oy, none⟩) (y.ld k).stn dst) := fun g => by rw [← ey]; exact blk_cell (blk_below bY (hbz.trans (g.bel.mono hbz.size))) 0 _ rfl
          have z0 : ∀ g : Grown wr, g.val.cell? ⟨bx, ox + p * 4, none⟩ = some (.int .i64 ((x.ld k).st p).who) := fun g => ((hbq.trans (g.bel.mono hbq.size)).cell (p := ⟨bx, ox + p * 4, none⟩) lx).trans g0
          have y0 : ∀ g : Grown wr, g.val.cell? ⟨by_, oy + p * 4, none⟩ = some (.int .i64 ((y.ld k).st p).who) := fun g => ((hbq.trans (g.bel.mono hbq.size)).cell (p := ⟨by_, oy + p * 4, none⟩) ly).trans f0
          have z1 : ∀ g : Grown wr, g.val.cell? ⟨bx, ox + p * 4 + 1, none⟩ = some (.int .i64 ((x.ld k).st p).ln) := fun g => ((hbq.trans (g.bel.mono hbq.size)).cell (p := ⟨bx, ox + p * 4 + 1, none⟩) lx).trans g1
          have y1 : ∀ g : Grown wr, g.val.cell? ⟨by_, oy + p * 4 + 1, none⟩ = some (.int .i64 ((y.ld k).st p).ln) := fun g => ((hbq.trans (g.bel.mono hbq.size)).cell (p := ⟨by_, oy + p * 4 + 1, none⟩) ly).trans f1
          have z2 : ∀ g : Grown wr, g.val.cell? ⟨bx, ox + p * 4 + 2, none⟩ = some (.int .i64 ((x.ld k).st p).len) := fun g => ((hbq.trans (g.bel.mono hbq.size)).cell (p := ⟨bx, ox + p * 4 + 2, none⟩) lx).trans g2
          have y2 : ∀ g : Grown wr, g.val.cell? ⟨by_, oy + p * 4 + 2, none⟩ = some (.int .i64 ((y.ld k).st p).len) := fun g => ((hbq.trans (g.bel.mono hbq.size)).cell (p := ⟨by_, oy + p * 4 + 2, none⟩) ly).trans f2
          have z3 : ∀ g : Grown wr, g.val.cell? ⟨bx, ox + p * 4 + 3, none⟩ = some (.int .i64 ((x.ld k).st p).hei) := fun g => ((hbq.trans (g.bel.mono hbq.size)).cell (p := ⟨bx, ox + p * 4 + 3, none⟩) lx).trans g3
          have y3 : ∀ g : Grown wr, g.val.cell? ⟨by_, oy + p * 4 + 3, none⟩ = some (.int .i64 ((y.ld k).st p).hei) := fun g => ((hbq.trans (g.bel.mono hbq.size)).cell (p := ⟨by_, oy + p * 4 + 3, none⟩) ly).trans f3
          obtain ⟨d, hd⟩ : ∃ d : Bool, d = decide ((x.ld k).st p = (y.ld k).st p) := ⟨_, rfl⟩
          have qn := stay_eql ((x.ld k).st p) ((y.ld k).st p)
          rw [← hd] at qn
          have HP : Hid (d = true ↔ (x.ld k).st p = (y.ld k).st p) := by rw [hd]; exact decide_eq_true_iff
          have HNM : Hid ((x.ld k).stn = (y.ld k).stn) := hnm
          clear hd ex ey hwz hnm g0 f0 g1 f1 g2 f2 g3 f3
          go_upto_region 13 with fail
          refine wp_region_grow (by kernel_rfl) (by kernel_rfl) ?_
          repeat (first | go_big_quiet_skip | (go_big_quiet_want; go_big_quiet_op; go_big_quiet_on))
          refine wpQuiet_nil ?_
          rintro _ ⟨g, rfl⟩
          clear z0 y0 z1 y1 z2 y2 z3 y3 qn ba bb xr yr
          go_wp2
          go_roundw
          case rel =>
            refine ⟨d, p + 1, rfl, by omega, by go_num, ⟨fun h => ⟨HNM.out, fun j hj => ?_⟩, fun h => HP.out.2 (h.2 p (by omega))⟩, after hbz g.bel⟩
            by_cases e : j = p
            · subst e; exact HP.out.1 h
            · exact HALL.out j (by omega)
          case measure => simp [intOf]; omega
    case rest =>
    obtain ⟨d0, Z0, rfl, rfl, HD0, hz0⟩ := hcut
    have hbz0 : Below w.heap.size w Z0 := after hb3 hz0
    replace bS := blk_below bS hz0
    replace bX := blk_below bX hz0
    replace bY := blk_below bY hz0
    replace bA := blk_below bA hz0
    replace bB := blk_below bB hz0
    replace hown := own_below hz0 hown
    clear hz0 HE0 n0 m0
    have xr := blk_cell bX 1 _ rfl
    have yr := blk_cell bY 1 _ rfl
    have n1 : (x.ld k).ron ≤ 1048576 := HSH.out.1.2.1
    have m1 : (y.ld k).ron ≤ 1048576 := HSH.out.2.2.1
    obtain ⟨e1, he1⟩ : ∃ e : Bool, e = (((x.ld k).ron : Int) == ((y.ld k).ron : Int)) := ⟨_, rfl⟩
    have HE1 : Hid (e1 = true ↔ (x.ld k).ron = (y.ld k).ron) := by rw [he1, beq_iff_eq]; exact ⟨fun h => by omega, fun h => by omega⟩
    have hee1 := he1.symm
    clear he1
    go_upto_block 4 with fail
    clear xr yr hee1
    go_cut [13, 14] from 102 to 122 (fun u _ wx => ∃ (c : Bool) (Zq : World), Zq = wx ∧ u = .bool c ∧ Hid (c = true ↔ roomsAlike (x.ld k).ron (y.ld k).ron (x.ld k).ro (y.ld k).ro) ∧ Below Z0.heap.size Z0 Zq)
    case first =>
      go_wp2_with fail
      go_loopw [13, 14] (fun u i wz => ∃ (c : Bool) (p : Nat), u = .bool c ∧ p ≤ (x.ld k).ron ∧ i = .int .i64 p ∧ Hid (c = true ↔ (x.ld k).ron = (y.ld k).ron ∧ ∀ j, j < p → (x.ld k).ro j = (y.ld k).ro j) ∧ Below Z0.heap.size Z0 wz) (fun _ i _ => (x.ld k).ron - (intOf i).toNat)
      case atStart => exact ⟨e1, 0, rfl, Nat.zero_le _, rfl, (HE1.out.trans ⟨fun h => ⟨h, fun j hj => absurd hj (Nat.not_lt_zero _)⟩, fun h => h.1⟩), Below.refl _ _⟩
      case round =>
        obtain ⟨c, p, rfl, hp, rfl, HCC, hbz⟩ := hrel
        obtain ⟨wz, hwz⟩ : ∃ u, u = wr := ⟨_, rfl⟩
        have xr := blk_cell (blk_below bX hbz) 1 _ rfl
        have yr := blk_cell (blk_below bY hbz) 1 _ rfl
        by_cases hlp : p < (x.ld k).ron
        case neg =>
          obtain rfl : p = (x.ld k).ron := by omega
          clear hwz
          go_wp2
          go_meet
          exact ⟨c, _, rfl, rfl, HCC.out, hbz⟩
        cases c with
        | false =>
          clear hwz
          go_wp2
          go_meet
          exact ⟨false, _, rfl, rfl, ⟨(fun h => by cases h), fun h => HCC.out.2 ⟨h.1, fun j hj => h.2 j (by omega)⟩⟩, hbz⟩
        | true =>
          have hcc := HCC.out.1 rfl
          have hnm : (x.ld k).ron = (y.ld k).ron := hcc.1
          have hall := hcc.2
          have HALL : Hid (∀ j, j < p → (x.ld k).ro j = (y.ld k).ro j) := hall
          clear hcc hall HCC
          obtain ⟨bx, ox, ex, g0, g1, g2, g3⟩ := HAT.out.1.2.1 p hlp
          obtain ⟨by_, oy, ey, f0, f1, f2, f3⟩ := HAT.out.2.2.1 p (by omega)
          have lx : bx < w.heap.size := World.block_lt_of_cell? w _ g0
          have ly : by_ < w.heap.size := World.block_lt_of_cell? w _ f0
          have q1 : (0 : Int) ≤ (p : Int) := by omega
          have q2 : (p : Int) < ((x.ld k).ron : Int) := by omega
          have q3 : (p : Int) < ((y.ld k).ron : Int) := by omega
          have hbq := after hbz0 hbz
          have ba : ∀ g : Grown wr, g.val.cell? ⟨xB, 1, none⟩ = some (.slice (some ⟨bx, ox, none⟩) (x.ld k).ron cro) := fun g => by rw [← ex]; exact blk_cell (blk_below bX (hbz.trans (g.bel.mono hbz.size))) 1 _ rfl
          have bb : ∀ g : Grown wr, g.val.cell? ⟨yB, 1, none⟩ = some (.slice (some ⟨by_, oy, none⟩) (y.ld k).ron dro) := fun g => by rw [← ey]; exact blk_cell (blk_below bY (hbz.trans (g.bel.mono hbz.size))) 1 _ rfl
          have z0 : ∀ g : Grown wr, g.val.cell? ⟨bx, ox + p * 4, none⟩ = some (.int .i64 ((x.ld k).ro p).who) := fun g => ((hbq.trans (g.bel.mono hbq.size)).cell (p := ⟨bx, ox + p * 4, none⟩) lx).trans g0
          have y0 : ∀ g : Grown wr, g.val.cell? ⟨by_, oy + p * 4, none⟩ = some (.int .i64 ((y.ld k).ro p).who) := fun g => ((hbq.trans (g.bel.mono hbq.size)).cell (p := ⟨by_, oy + p * 4, none⟩) ly).trans f0
          have z1 : ∀ g : Grown wr, g.val.cell? ⟨bx, ox + p * 4 + 1, none⟩ = some (.int .i64 ((x.ld k).ro p).cab) := fun g => ((hbq.trans (g.bel.mono hbq.size)).cell (p := ⟨bx, ox + p * 4 + 1, none⟩) lx).trans g1
          have y1 : ∀ g : Grown wr, g.val.cell? ⟨by_, oy + p * 4 + 1, none⟩ = some (.int .i64 ((y.ld k).ro p).cab) := fun g => ((hbq.trans (g.bel.mono hbq.size)).cell (p := ⟨by_, oy + p * 4 + 1, none⟩) ly).trans f1
          have z2 : ∀ g : Grown wr, g.val.cell? ⟨bx, ox + p * 4 + 2, none⟩ = some (.int .i64 ((x.ld k).ro p).many) := fun g => ((hbq.trans (g.bel.mono hbq.size)).cell (p := ⟨bx, ox + p * 4 + 2, none⟩) lx).trans g2
          have y2 : ∀ g : Grown wr, g.val.cell? ⟨by_, oy + p * 4 + 2, none⟩ = some (.int .i64 ((y.ld k).ro p).many) := fun g => ((hbq.trans (g.bel.mono hbq.size)).cell (p := ⟨by_, oy + p * 4 + 2, none⟩) ly).trans f2
          have z3 : ∀ g : Grown wr, g.val.cell? ⟨bx, ox + p * 4 + 3, none⟩ = some (.bool ((x.ld k).ro p).all) := fun g => ((hbq.trans (g.bel.mono hbq.size)).cell (p := ⟨bx, ox + p * 4 + 3, none⟩) lx).trans g3
          have y3 : ∀ g : Grown wr, g.val.cell? ⟨by_, oy + p * 4 + 3, none⟩ = some (.bool ((y.ld k).ro p).all) := fun g => ((hbq.trans (g.bel.mono hbq.size)).cell (p := ⟨by_, oy + p * 4 + 3, none⟩) ly).trans f3
          obtain ⟨d, hd⟩ : ∃ d : Bool, d = decide ((x.ld k).ro p = (y.ld k).ro p) := ⟨_, rfl⟩
          have qn := room_eql ((x.ld k).ro p) ((y.ld k).ro p)
          rw [← hd] at qn
          have HP : Hid (d = true ↔ (x.ld k).ro p = (y.ld k).ro p) := by rw [hd]; exact decide_eq_true_iff
          have HNM : Hid ((x.ld k).ron = (y.ld k).ron) := hnm
          clear hd ex ey hwz hnm g0 f0 g1 f1 g2 f2 g3 f3
          go_upto_region 18 with fail
          refine wp_region_grow (by kernel_rfl) (by kernel_rfl) ?_
          repeat (first | go_big_quiet_skip | (go_big_quiet_want; go_big_quiet_op; go_big_quiet_on))
          refine wpQuiet_nil ?_
          rintro _ ⟨g, rfl⟩
          clear z0 y0 z1 y1 z2 y2 z3 y3 qn ba bb xr yr
          go_wp2
          go_roundw
          case rel =>
            refine ⟨d, p + 1, rfl, by omega, by go_num, ⟨fun h => ⟨HNM.out, fun j hj => ?_⟩, fun h => HP.out.2 (h.2 p (by omega))⟩, after hbz g.bel⟩
            by_cases e : j = p
            · subst e; exact HP.out.1 h
            · exact HALL.out j (by omega)
          case measure => simp [intOf]; omega
    case rest =>
    obtain ⟨d1, Z1, rfl, rfl, HD1, hz1⟩ := hcut
    have hbz1 : Below w.heap.size w Z1 := after hbz0 hz1
    replace bS := blk_below bS hz1
    replace bX := blk_below bX hz1
    replace bY := blk_below bY hz1
    replace bA := blk_below bA hz1
    replace bB := blk_below bB hz1
    replace hown := own_below hz1 hown
    clear hz1 HE1 n1 m1
    have xr := blk_cell bX 2 _ rfl
    have yr := blk_cell bY 2 _ rfl
    have n2 : (x.ld k).sen ≤ 1048576 := HSH.out.1.2.2
    have m2 : (y.ld k).sen ≤ 1048576 := HSH.out.2.2.2
    obtain ⟨e2, he2⟩ : ∃ e : Bool, e = (((x.ld k).sen : Int) == ((y.ld k).sen : Int)) := ⟨_, rfl⟩
    have HE2 : Hid (e2 = true ↔ (x.ld k).sen = (y.ld k).sen) := by rw [he2, beq_iff_eq]; exact ⟨fun h => by omega, fun h => by omega⟩
    have hee2 := he2.symm
    clear he2
    go_upto_block 6 with fail
    clear xr yr hee2
    go_cut [15, 16] from 130 to 150 (fun u _ wx => ∃ (c : Bool) (Zq : World), Zq = wx ∧ u = .bool c ∧ Hid (c = true ↔ seatsAlike (x.ld k).sen (y.ld k).sen (x.ld k).se (y.ld k).se) ∧ Below Z1.heap.size Z1 Zq)
    case first =>
      go_wp2_with fail
      go_loopw [15, 16] (fun u i wz => ∃ (c : Bool) (p : Nat), u = .bool c ∧ p ≤ (x.ld k).sen ∧ i = .int .i64 p ∧ Hid (c = true ↔ (x.ld k).sen = (y.ld k).sen ∧ ∀ j, j < p → (x.ld k).se j = (y.ld k).se j) ∧ Below Z1.heap.size Z1 wz) (fun _ i _ => (x.ld k).sen - (intOf i).toNat)
      case atStart => exact ⟨e2, 0, rfl, Nat.zero_le _, rfl, (HE2.out.trans ⟨fun h => ⟨h, fun j hj => absurd hj (Nat.not_lt_zero _)⟩, fun h => h.1⟩), Below.refl _ _⟩
      case round =>
        obtain ⟨c, p, rfl, hp, rfl, HCC, hbz⟩ := hrel
        obtain ⟨wz, hwz⟩ : ∃ u, u = wr := ⟨_, rfl⟩
        have xr := blk_cell (blk_below bX hbz) 2 _ rfl
        have yr := blk_cell (blk_below bY hbz) 2 _ rfl
        by_cases hlp : p < (x.ld k).sen
        case neg =>
          obtain rfl : p = (x.ld k).sen := by omega
          clear hwz
          go_wp2
          go_meet
          exact ⟨c, _, rfl, rfl, HCC.out, hbz⟩
        cases c with
        | false =>
          clear hwz
          go_wp2
          go_meet
          exact ⟨false, _, rfl, rfl, ⟨(fun h => by cases h), fun h => HCC.out.2 ⟨h.1, fun j hj => h.2 j (by omega)⟩⟩, hbz⟩
        | true =>
          have hcc := HCC.out.1 rfl
          have hnm : (x.ld k).sen = (y.ld k).sen := hcc.1
          have hall := hcc.2
          have HALL : Hid (∀ j, j < p → (x.ld k).se j = (y.ld k).se j) := hall
          clear hcc hall HCC
          obtain ⟨bx, ox, ex, g0, g1⟩ := HAT.out.1.2.2 p hlp
          obtain ⟨by_, oy, ey, f0, f1⟩ := HAT.out.2.2.2 p (by omega)
          have lx : bx < w.heap.size := World.block_lt_of_cell? w _ g0
          have ly : by_ < w.heap.size := World.block_lt_of_cell? w _ f0
          have q1 : (0 : Int) ≤ (p : Int) := by omega
          have q2 : (p : Int) < ((x.ld k).sen : Int) := by omega
          have q3 : (p : Int) < ((y.ld k).sen : Int) := by omega
          have hbq := after hbz1 hbz
          have ba : ∀ g : Grown wr, g.val.cell? ⟨xB, 2, none⟩ = some (.slice (some ⟨bx, ox, none⟩) (x.ld k).sen cse) := fun g => by rw [← ex]; exact blk_cell (blk_below bX (hbz.trans (g.bel.mono hbz.size))) 2 _ rfl
          have bb : ∀ g : Grown wr, g.val.cell? ⟨yB, 2, none⟩ = some (.slice (some ⟨by_, oy, none⟩) (y.ld k).sen dse) := fun g => by rw [← ey]; exact blk_cell (blk_below bY (hbz.trans (g.bel.mono hbz.size))) 2 _ rfl
          have z0 : ∀ g : Grown wr, g.val.cell? ⟨bx, ox + p * 2, none⟩ = some (.int .i64 ((x.ld k).se p).who) := fun g => ((hbq.trans (g.bel.mono hbq.size)).cell (p := ⟨bx, ox + p * 2, none⟩) lx).trans g0
          have y0 : ∀ g : Grown wr, g.val.cell? ⟨by_, oy + p * 2, none⟩ = some (.int .i64 ((y.ld k).se p).who) := fun g => ((hbq.trans (g.bel.mono hbq.size)).cell (p := ⟨by_, oy + p * 2, none⟩) ly).trans f0
          have z1 : ∀ g : Grown wr, g.val.cell? ⟨bx, ox + p * 2 + 1, none⟩ = some (.int .i64 ((x.ld k).se p).many) := fun g => ((hbq.trans (g.bel.mono hbq.size)).cell (p := ⟨bx, ox + p * 2 + 1, none⟩) lx).trans g1
          have y1 : ∀ g : Grown wr, g.val.cell? ⟨by_, oy + p * 2 + 1, none⟩ = some (.int .i64 ((y.ld k).se p).many) := fun g => ((hbq.trans (g.bel.mono hbq.size)).cell (p := ⟨by_, oy + p * 2 + 1, none⟩) ly).trans f1
          obtain ⟨d, hd⟩ : ∃ d : Bool, d = decide ((x.ld k).se p = (y.ld k).se p) := ⟨_, rfl⟩
          have qn := seat_eql ((x.ld k).se p) ((y.ld k).se p)
          rw [← hd] at qn
          have HP : Hid (d = true ↔ (x.ld k).se p = (y.ld k).se p) := by rw [hd]; exact decide_eq_true_iff
          have HNM : Hid ((x.ld k).sen = (y.ld k).sen) := hnm
          clear hd ex ey hwz hnm g0 f0 g1 f1
          go_upto_region 23 with fail
          refine wp_region_grow (by kernel_rfl) (by kernel_rfl) ?_
          repeat (first | go_big_quiet_skip | (go_big_quiet_want; go_big_quiet_op; go_big_quiet_on))
          refine wpQuiet_nil ?_
          rintro _ ⟨g, rfl⟩
          clear z0 y0 z1 y1 qn ba bb xr yr
          go_wp2
          go_roundw
          case rel =>
            refine ⟨d, p + 1, rfl, by omega, by go_num, ⟨fun h => ⟨HNM.out, fun j hj => ?_⟩, fun h => HP.out.2 (h.2 p (by omega))⟩, after hbz g.bel⟩
            by_cases e : j = p
            · subst e; exact HP.out.1 h
            · exact HALL.out j (by omega)
          case measure => simp [intOf]; omega
    case rest =>
    obtain ⟨d2, Z2, rfl, rfl, HD2, hz2⟩ := hcut
    have hbz2 : Below w.heap.size w Z2 := after hbz1 hz2
    replace bS := blk_below bS hz2
    replace bX := blk_below bX hz2
    replace bY := blk_below bY hz2
    replace bA := blk_below bA hz2
    replace bB := blk_below bB hz2
    replace hown := own_below hz2 hown
    clear hz2 HE2 n2 m2
    clear bX bY
    have hownE : Z2.ownsRow w.heap.size 3 1 u6 (plist x.sa x.ld y.ld k 0).length (cellsI (plist x.sa x.ld y.ld k 0)) := by rw [plist_0]; exact hown
    clear hown
    go_wp2
    obtain ⟨Bb, hBb⟩ : ∃ u, u = Z2.heap.size := ⟨_, rfl⟩
    have bT : (Z2.alloc (.cells #[.bool d0, .bool d1, .bool d2] 4)).heap[Bb]? = some (.cells #[.bool d0, .bool d1, .bool d2] 4 (0, 0)) := by rw [hBb]; exact heap_alloc_new _ _
    rw [← hBb]
    have hpz : Below Z2.heap.size Z2 (Z2.alloc (.cells #[.bool d0, .bool d1, .bool d2] 4)) := push (Below.refl _ _) _
    generalize Z2.alloc (.cells #[.bool d0, .bool d1, .bool d2] 4) = Z at bT hpz ⊢
    replace bS := blk_below bS hpz
    replace bA := blk_below bA hpz
    replace bB := blk_below bB hpz
    replace hownE := own_below hpz hownE
    have hbz : Below w.heap.size w Z := after hbz2 hpz
    clear hBb hpz hbz0 hbz1 hbz2 hb3
    go_loopw [6, 156] (fun v i wz => ∃ p : Nat, p ≤ 3 ∧ i = .int .i64 p ∧ wz.ownsRow w.heap.size 3 1 v (plist x.sa x.ld y.ld k p).length (cellsI (plist x.sa x.ld y.ld k p)) ∧ wz.heap[Bb]? = some (.cells #[.bool d0, .bool d1, .bool d2] 4 (0, 0)) ∧ wz.heap[sB]? = some (.cells #[.int .i64 (x.sa k).id, .string (x.sa k).fr, .string (x.sa k).dst, .int .i64 (x.sa k).dep, .int .i64 (x.sa k).arr, .slice la (x.sa k).la.n lc, .slice ca (x.sa k).ca.n cc, .int .i64 (x.sa k).most] 50 (0, 0)) ∧ wz.heap[w.heap.size]? = some (.cells #[.slice (some ⟨b, off, none⟩) x.san csa, .slice (some ⟨lb, lo, none⟩) x.ldn cld, .slice abk x.bkn cbk] 35 (0, 0)) ∧ wz.heap[w.heap.size + 1]? = some (.cells #[.slice asa' y.san csa', .slice (some ⟨lb', lo', none⟩) y.ldn cld', .slice abk' y.bkn cbk'] 35 (0, 0)) ∧ Below w.heap.size w wz) (fun _ i _ => 3 - (intOf i).toNat)
    case atStart => exact ⟨0, by omega, rfl, hownE, bT, bS, bA, bB, hbz⟩
    case round =>
      clear hownE bT bS bA bB hbz
      obtain ⟨p, hp, rfl, hown, bT, bS, bA, bB, hbel⟩ := hrel
      by_cases hlp : p < 3
      case neg =>
        obtain rfl : p = 3 := by omega
        rw [plist_3] at hown
        go_wp2
        go_roundw
        case rel => exact ⟨k + 1, by omega, by go_num, hown, bA, bB, hbel⟩
        case measure => simp [intOf]; omega
      have t0 := blk_cell bT 0 _ rfl
      have t1 := blk_cell bT 1 _ rfl
      have t2 := blk_cell bT 2 _ rfl
      have hcase : p = 0 ∨ p = 1 ∨ p = 2 := by omega
      rcases hcase with rfl | rfl | rfl
      · have HLS : Hid (d0 = true ↔ LoadSame 0 (x.ld k) (y.ld k)) := HD0.out
        cases d0 with
        | true =>
          have hsm : LoadSame 0 (x.ld k) (y.ld k) := HLS.out.1 rfl
          have HSM : Hid (LoadSame 0 (x.ld k) (y.ld k)) := hsm
          clear hsm HLS
          go_wp2
          go_roundw
          case rel => exact ⟨0 + 1, by omega, by go_num, by rw [plist_same HSM.out]; exact hown, bT, bS, bA, bB, hbel⟩
          case measure => simp [intOf]
        | false =>
          have HDF : Hid (¬ LoadSame 0 (x.ld k) (y.ld k)) := fun h => absurd (HLS.out.2 h) (by decide)
          clear HLS
          obtain ⟨z, hz⟩ : ∃ z : Int, z = pairKeyV (x.sa k).id 0 := ⟨_, rfl⟩
          have hz2 : z = 1000 + 3 * (x.sa k).id + 0 := by rw [hz]; exact pairKeyV_yes ⟨HID.out, by decide⟩
          have HZ : Hid (pairKeyV (x.sa k).id 0 = z) := hz.symm
          have HZ2 : Hid (z = 1000 + 3 * (x.sa k).id + 0) := hz2
          have hlen : (plist x.sa x.ld y.ld k 0).length ≤ 30 := by have := plist_len x.sa x.ld y.ld k 0; omega
          have x0 := blk_cell bS 0 _ rfl
          have hsz := hbel.size
          clear hz hz2
          obtain ⟨wz, hwz⟩ : ∃ u, u = wr := ⟨_, rfl⟩
          go_wp2_with (first
            | (go_at_call 18; refine (specPair_is _ _ _).mono ?_; rintro e w' ⟨he, hw'⟩; rw [HZ.out] at he; subst he; have hw' := hw'.symm; subst hw')
            | (at_builtin; refine wpList_append_lies _ (by rfl) (.tmp 163) (.tmp 168) 28 (by rfl) w.heap.size 3 i0 (.int .i64 0) 1 8 Tryz.underlying28 hi0 hz0 hz1 hz2 rfl (by decide) _ (plist x.sa x.ld y.ld k 0).length (cellsI (plist x.sa x.ld y.ld k 0)) (by rfl) (hown.alloc _) ⟨wr.heap.size, 0, none⟩ 1 1 [.int .i64 z] (by rfl) (by rfl) (World.news_of_block (heap_alloc_new wr _)) (by intro u hu; simp at hu; subst hu; rfl) (by decide) (by unfold maxLen; omega) (by omega) (by simp; omega) _ rfl ?_; intro g cap w2 hown1 hgrow hat hlt1) | go_in)
          go_roundw
          case rel =>
            have hkp : ∀ (b' : Nat) (c : Array Value) (t : Nat) (f : Nat × Nat), wr.heap[b']? = some (.cells c t f) → 3 ≠ t → w2.heap[b']? = some (.cells c t f) := fun b' c t f hb' hne => (hgrow.block b' (by simp; have := blk_lt hb'; omega) (fun e => row_type (hown.alloc (.cells #[.int .i64 z] 3)) (blk_alloc hb' _) hne e.symm)).trans (blk_alloc hb' _)
            refine ⟨0 + 1, by omega, by go_num, ?_, hkp _ _ _ _ bT (by decide), hkp _ _ _ _ bS (by decide), hkp _ _ _ _ bA (by decide), hkp _ _ _ _ bB (by decide), (push hbel _).grown hgrow (by simp; omega) (fun j hj => (hown.lt j hj).1)⟩
            rw [plist_new HDF.out, cellsI_snoc, List.length_append]
            rw [HZ2.out] at hown1
            exact hown1
          case measure => simp [intOf]
      · have HLS : Hid (d1 = true ↔ LoadSame 1 (x.ld k) (y.ld k)) := HD1.out
        cases d1 with
        | true =>
          have hsm : LoadSame 1 (x.ld k) (y.ld k) := HLS.out.1 rfl
          have HSM : Hid (LoadSame 1 (x.ld k) (y.ld k)) := hsm
          clear hsm HLS
          go_wp2
          go_roundw
          case rel => exact ⟨1 + 1, by omega, by go_num, by rw [plist_same HSM.out]; exact hown, bT, bS, bA, bB, hbel⟩
          case measure => simp [intOf]
        | false =>
          have HDF : Hid (¬ LoadSame 1 (x.ld k) (y.ld k)) := fun h => absurd (HLS.out.2 h) (by decide)
          clear HLS
          obtain ⟨z, hz⟩ : ∃ z : Int, z = pairKeyV (x.sa k).id 1 := ⟨_, rfl⟩
          have hz2 : z = 1000 + 3 * (x.sa k).id + 1 := by rw [hz]; exact pairKeyV_yes ⟨HID.out, by decide⟩
          have HZ : Hid (pairKeyV (x.sa k).id 1 = z) := hz.symm
          have HZ2 : Hid (z = 1000 + 3 * (x.sa k).id + 1) := hz2
          have hlen : (plist x.sa x.ld y.ld k 1).length ≤ 30 := by have := plist_len x.sa x.ld y.ld k 1; omega
          have x0 := blk_cell bS 0 _ rfl
          have hsz := hbel.size
          clear hz hz2
          obtain ⟨wz, hwz⟩ : ∃ u, u = wr := ⟨_, rfl⟩
          go_wp2_with (first
            | (go_at_call 18; refine (specPair_is _ _ _).mono ?_; rintro e w' ⟨he, hw'⟩; rw [HZ.out] at he; subst he; have hw' := hw'.symm; subst hw')
            | (at_builtin; refine wpList_append_lies _ (by rfl) (.tmp 163) (.tmp 168) 28 (by rfl) w.heap.size 3 i0 (.int .i64 0) 1 8 Tryz.underlying28 hi0 hz0 hz1 hz2 rfl (by decide) _ (plist x.sa x.ld y.ld k 1).length (cellsI (plist x.sa x.ld y.ld k 1)) (by rfl) (hown.alloc _) ⟨wr.heap.size, 0, none⟩ 1 1 [.int .i64 z] (by rfl) (by rfl) (World.news_of_block (heap_alloc_new wr _)) (by intro u hu; simp at hu; subst hu; rfl) (by decide) (by unfold maxLen; omega) (by omega) (by simp; omega) _ rfl ?_; intro g cap w2 hown1 hgrow hat hlt1) | go_in)
          go_roundw
          case rel =>
            have hkp : ∀ (b' : Nat) (c : Array Value) (t : Nat) (f : Nat × Nat), wr.heap[b']? = some (.cells c t f) → 3 ≠ t → w2.heap[b']? = some (.cells c t f) := fun b' c t f hb' hne => (hgrow.block b' (by simp; have := blk_lt hb'; omega) (fun e => row_type (hown.alloc (.cells #[.int .i64 z] 3)) (blk_alloc hb' _) hne e.symm)).trans (blk_alloc hb' _)
            refine ⟨1 + 1, by omega, by go_num, ?_, hkp _ _ _ _ bT (by decide), hkp _ _ _ _ bS (by decide), hkp _ _ _ _ bA (by decide), hkp _ _ _ _ bB (by decide), (push hbel _).grown hgrow (by simp; omega) (fun j hj => (hown.lt j hj).1)⟩
            rw [plist_new HDF.out, cellsI_snoc, List.length_append]
            rw [HZ2.out] at hown1
            exact hown1
          case measure => simp [intOf]
      · have HLS : Hid (d2 = true ↔ LoadSame 2 (x.ld k) (y.ld k)) := HD2.out
        cases d2 with
        | true =>
          have hsm : LoadSame 2 (x.ld k) (y.ld k) := HLS.out.1 rfl
          have HSM : Hid (LoadSame 2 (x.ld k) (y.ld k)) := hsm
          clear hsm HLS
          go_wp2
          go_roundw
          case rel => exact ⟨2 + 1, by omega, by go_num, by rw [plist_same HSM.out]; exact hown, bT, bS, bA, bB, hbel⟩
          case measure => simp [intOf]
        | false =>
          have HDF : Hid (¬ LoadSame 2 (x.ld k) (y.ld k)) := fun h => absurd (HLS.out.2 h) (by decide)
          clear HLS
          obtain ⟨z, hz⟩ : ∃ z : Int, z = pairKeyV (x.sa k).id 2 := ⟨_, rfl⟩
          have hz2 : z = 1000 + 3 * (x.sa k).id + 2 := by rw [hz]; exact pairKeyV_yes ⟨HID.out, by decide⟩
          have HZ : Hid (pairKeyV (x.sa k).id 2 = z) := hz.symm
          have HZ2 : Hid (z = 1000 + 3 * (x.sa k).id + 2) := hz2
          have hlen : (plist x.sa x.ld y.ld k 2).length ≤ 30 := by have := plist_len x.sa x.ld y.ld k 2; omega
          have x0 := blk_cell bS 0 _ rfl
          have hsz := hbel.size
          clear hz hz2
          obtain ⟨wz, hwz⟩ : ∃ u, u = wr := ⟨_, rfl⟩
          go_wp2_with (first
            | (go_at_call 18; refine (specPair_is _ _ _).mono ?_; rintro e w' ⟨he, hw'⟩; rw [HZ.out] at he; subst he; have hw' := hw'.symm; subst hw')
            | (at_builtin; refine wpList_append_lies _ (by rfl) (.tmp 163) (.tmp 168) 28 (by rfl) w.heap.size 3 i0 (.int .i64 0) 1 8 Tryz.underlying28 hi0 hz0 hz1 hz2 rfl (by decide) _ (plist x.sa x.ld y.ld k 2).length (cellsI (plist x.sa x.ld y.ld k 2)) (by rfl) (hown.alloc _) ⟨wr.heap.size, 0, none⟩ 1 1 [.int .i64 z] (by rfl) (by rfl) (World.news_of_block (heap_alloc_new wr _)) (by intro u hu; simp at hu; subst hu; rfl) (by decide) (by unfold maxLen; omega) (by omega) (by simp; omega) _ rfl ?_; intro g cap w2 hown1 hgrow hat hlt1) | go_in)
          go_roundw
          case rel =>
            have hkp : ∀ (b' : Nat) (c : Array Value) (t : Nat) (f : Nat × Nat), wr.heap[b']? = some (.cells c t f) → 3 ≠ t → w2.heap[b']? = some (.cells c t f) := fun b' c t f hb' hne => (hgrow.block b' (by simp; have := blk_lt hb'; omega) (fun e => row_type (hown.alloc (.cells #[.int .i64 z] 3)) (blk_alloc hb' _) hne e.symm)).trans (blk_alloc hb' _)
            refine ⟨2 + 1, by omega, by go_num, ?_, hkp _ _ _ _ bT (by decide), hkp _ _ _ _ bS (by decide), hkp _ _ _ _ bA (by decide), hkp _ _ _ _ bB (by decide), (push hbel _).grown hgrow (by simp; omega) (fun j hj => (hown.lt j hj).1)⟩
            rw [plist_new HDF.out, cellsI_snoc, List.length_append]
            rw [HZ2.out] at hown1
            exact hown1
          case measure => simp [intOf]

end Go.Proofs.YtcioofnmhfehaaaGreat

namespace Go.Proofs.YtcioofnmhfehaaaGreat
open Go.RowKit

set_option maxHeartbeats 800000 in
theorem szOffice_any (cs : List Value) (x : Off) (w : World) (hs : Off.Short x 1000000000000000) (h : Off.Is w cs x) :
    Calls Tryz.prog 4 #[.agg cs.toArray, .int .i64 1048576] w fun e w' => ∃ r : Int, e = .returned (.int .i64 r) ∧ (r = -1 ∨ (0 ≤ r ∧ r ≤ 1048576 ∧ Off.Short x 1048576)) ∧ Below w.heap.size w w' := by
  obtain ⟨asa, csa, ald, cld, abk, cbk, rfl, h1, s1, h2, s2, h3, s3⟩ := h
  obtain ⟨⟨b1, t1⟩, ⟨b2, t2⟩, ⟨b3, t3⟩⟩ := hs
  have hb0 : Below w.heap.size w (w.alloc (.cells #[.slice asa x.san csa, .slice ald x.ldn cld, .slice abk x.bkn cbk] 26)) := push (Below.refl _ _) _
  have hA0 := heap_alloc_new w (.cells #[.slice asa x.san csa, .slice ald x.ldn cld, .slice abk x.bkn cbk] 26)
  clear s1 s2 s3
  go_enter Tryz.func4, Tryz.ntmps4
  go_wp2_with fail
  refine (szSailingS_le asa x.san csa x.sa _ b1 t1 (h1.below hb0)).mono ?_
  rintro e v1 ⟨r1, rfl, hr1, hb⟩
  have hA1 := blk_below hA0 hb
  have hb1 := after hb0 hb
  clear hA0 hb0 hb
  rcases hr1 with rfl | ⟨p1, p2, p3, p4⟩
  · go_wp2
    go_ret
    exact ⟨_, rfl, .inl rfl, hb1⟩
  · have d1 : decide (r1 < 0) = false := by simpa using p1
    have q1 := blk_cell hA1 1 _ rfl
    go_wp2_with fail
    refine (szLoadS_any ald x.ldn cld x.ld r1 _ p1 p2 b2 t2 (h2.below hb1)).mono ?_
    rintro e v2 ⟨r2, rfl, hr2, hb⟩
    have hA2 := blk_below hA1 hb
    have hb2 := after hb1 hb
    clear hA1 hb1 hb q1
    rcases hr2 with rfl | ⟨q1, q2, q3, q4⟩
    · go_wp2
      go_ret
      exact ⟨_, rfl, .inl rfl, hb2⟩
    · have d2 : decide (r2 < 0) = false := by simpa using q1
      have k2 := blk_cell hA2 2 _ rfl
      go_wp2_with fail
      refine (szBookingS_any abk x.bkn cbk x.bk r2 _ q1 (by omega) b3 t3 (h3.below hb2)).mono ?_
      rintro e v3 ⟨r3, rfl, hr3, hb⟩
      have hb3 := after hb2 hb
      clear hb2 hb k2
      rcases hr3 with rfl | ⟨u1, u2, u3, u4⟩
      · go_wp2
        go_ret
        exact ⟨_, rfl, .inl rfl, hb3⟩
      · have d3 : decide (r3 < 0) = false := by simpa using u1
        go_wp2
        go_ret
        exact ⟨_, rfl, .inr ⟨u1, by omega, ⟨p3, p4⟩, ⟨q3, q4⟩, ⟨u3, u4⟩⟩, hb3⟩

theorem off_set_0 {w : World} {g t : Nat} {u0 u1 u2 v0 : Value} (h : w.heap[g]? = some (.cells #[u0, u1, u2] t (0, 0))) : (w.setCell ⟨g, 0, none⟩ v0).heap[g]? = some (.cells #[v0, u1, u2] t (0, 0)) := by
  simpa using blk_set h 0 v0

theorem off_set_1 {w : World} {g t : Nat} {u0 u1 u2 v1 : Value} (h : w.heap[g]? = some (.cells #[u0, u1, u2] t (0, 0))) : (w.setCell ⟨g, 1, none⟩ v1).heap[g]? = some (.cells #[u0, v1, u2] t (0, 0)) := by
  simpa using blk_set h 1 v1

theorem off_set_2 {w : World} {g t : Nat} {u0 u1 u2 v2 : Value} (h : w.heap[g]? = some (.cells #[u0, u1, u2] t (0, 0))) : (w.setCell ⟨g, 2, none⟩ v2).heap[g]? = some (.cells #[u0, u1, v2] t (0, 0)) := by
  simpa using blk_set h 2 v2

theorem kept_one (w : World) (g i : Nat) (v : Value) : Kept w (w.setCell ⟨g, i, none⟩ v) (fun b => b = g) := (Kept.refl w (fun b => b = g)).set (a := ⟨g, i, none⟩) rfl v

set_option maxHeartbeats 1600000 in
set_option maxRecDepth 100000 in
theorem toOffice_any (cs : List Value) (x : Off) (w : World) (hs : Off.Short x 1048576) (h : Off.Is w cs x) :
    Calls Tryz.prog 6 #[.agg cs.toArray] w fun e w' => ∃ cs', e = .returned (.agg cs'.toArray) ∧ Off.In w' w.heap.size w'.heap.size cs' x ∧ Below w.heap.size w w' := by
  obtain ⟨asa, csa, ald, cld, abk, cbk, rfl, h1, s1, h2, s2, h3, s3⟩ := h
  obtain ⟨⟨b1, t1⟩, ⟨b2, t2⟩, ⟨b3, t3⟩⟩ := hs
  clear s1 s2 s3
  go_enter Tryz.func6, Tryz.ntmps6
  go_wp2_with fail
  obtain ⟨W0, hW0⟩ : ∃ W, W = (((w.alloc (.cells #[.slice asa x.san csa, .slice ald x.ldn cld, .slice abk x.bkn cbk] 26)).alloc (.cells #[.slice none 0 0, .slice none 0 0, .slice none 0 0] 35)).alloc (.cells #[.slice none 0 0, .slice none 0 0, .slice none 0 0] 35)) := ⟨_, rfl⟩
  have H0 : Below w.heap.size w W0 := by rw [hW0]; exact push (push (push (Below.refl _ _) _) _) _
  have A0 : W0.heap[w.heap.size]? = some (.cells #[.slice asa x.san csa, .slice ald x.ldn cld, .slice abk x.bkn cbk] 26 (0, 0)) := by rw [hW0]; exact blk_alloc (blk_alloc (heap_alloc_new w _) _) _
  have R0 : W0.heap[w.heap.size + 1]? = some (.cells #[.slice none 0 0, .slice none 0 0, .slice none 0 0] 35 (0, 0)) := by rw [hW0]; exact blk_alloc (by simpa using heap_alloc_new (w.alloc _) _) _
  have O0 : W0.heap[w.heap.size + 1 + 1]? = some (.cells #[.slice none 0 0, .slice none 0 0, .slice none 0 0] 35 (0, 0)) := by rw [hW0]; simpa using heap_alloc_new ((w.alloc _).alloc _) _
  rw [← hW0]
  clear hW0
  have gO := blk_lt O0
  refine (toSailingS_any asa x.san csa x.sa _ b1 t1 (h1.below H0)).mono ?_
  rintro e v0 ⟨gsa, ls, cc, rfl, m0, hb⟩
  have M0 := m0.high
  have Av := blk_below A0 hb
  have Rv := blk_below R0 hb
  have Ov := blk_below O0 hb
  have Hv := after H0 hb
  have sz0 := hb.size
  clear A0 R0 O0 H0 hb m0
  have qa1 := blk_cell Av 1 _ rfl
  have fo := blk_free Ov 0
  have qo0 := blk_cell Ov 0 _ rfl
  go_wp2_with fail
  clear fo qo0 qa1
  obtain ⟨W1, hW⟩ : ∃ W, W = v0.setCell ⟨w.heap.size + 1 + 1, 0, none⟩ (.slice (some ⟨gsa, 0, none⟩) x.san x.san) := ⟨_, rfl⟩
  have hk : Kept v0 W1 (fun b => b = w.heap.size + 1 + 1) := by rw [hW]; exact kept_one _ _ _ _
  have A1 := hk.blk Av (by omega)
  have R1 := hk.blk Rv (by omega)
  have O1 : W1.heap[w.heap.size + 1 + 1]? = some (.cells #[.slice (some ⟨gsa, 0, none⟩) x.san x.san, .slice none 0 0, .slice none 0 0] 35 (0, 0)) := by rw [hW]; exact off_set_0 Ov
  have H1 : Below w.heap.size w W1 := by rw [hW]; exact Hv.setCell (p := ⟨w.heap.size + 1 + 1, 0, none⟩) (by show w.heap.size ≤ w.heap.size + 1 + 1; omega) _
  have hz : W1.heap.size = v0.heap.size := by rw [hW, World.size_setCell]
  have M0' := M0.kept hk (fun b h => by left; omega)
  rw [← hW]
  rw [← hz] at M0' sz0
  clear hW hk Av Rv Ov Hv M0
  have M0 := M0'
  clear M0'
  clear hz
  refine (toLoadS_any ald x.ldn cld x.ld _ b2 t2 (h2.below H1)).mono ?_
  rintro e v1 ⟨gld, C, rfl, M1, hb⟩
  have Av := blk_below A1 hb
  have Rv := blk_below R1 hb
  have Ov := blk_below O1 hb
  have Hv := after H1 hb
  have sz1 := hb.size
  have M0' := M0.below hb
  clear A1 R1 O1 H1 hb M0
  have M0 := M0'
  clear M0'
  have qa2 := blk_cell Av 2 _ rfl
  have fo := blk_free Ov 1
  have qo1 := blk_cell Ov 1 _ rfl
  go_wp2_with fail
  clear fo qo1 qa2
  obtain ⟨W2, hW⟩ : ∃ W, W = v1.setCell ⟨w.heap.size + 1 + 1, 1, none⟩ (.slice (some ⟨gld, 0, none⟩) x.ldn x.ldn) := ⟨_, rfl⟩
  have hk : Kept v1 W2 (fun b => b = w.heap.size + 1 + 1) := by rw [hW]; exact kept_one _ _ _ _
  have A2 := hk.blk Av (by omega)
  have R2 := hk.blk Rv (by omega)
  have O2 : W2.heap[w.heap.size + 1 + 1]? = some (.cells #[.slice (some ⟨gsa, 0, none⟩) x.san x.san, .slice (some ⟨gld, 0, none⟩) x.ldn x.ldn, .slice none 0 0] 35 (0, 0)) := by rw [hW]; exact off_set_1 Ov
  have H2 : Below w.heap.size w W2 := by rw [hW]; exact Hv.setCell (p := ⟨w.heap.size + 1 + 1, 1, none⟩) (by show w.heap.size ≤ w.heap.size + 1 + 1; omega) _
  have hz : W2.heap.size = v1.heap.size := by rw [hW, World.size_setCell]
  have M0' := M0.kept hk (fun b h => by left; omega)
  have M1' := M1.kept hk (fun b h => by left; omega)
  rw [← hW]
  rw [← hz] at M1' sz1
  clear hW hk Av Rv Ov Hv M0 M1
  have M0 := M0'
  clear M0'
  have M1 := M1'
  clear M1'
  clear hz
  refine (toBookingS_any abk x.bkn cbk x.bk _ b3 t3 (h3.below H2)).mono ?_
  rintro e v2 ⟨gbk, E, rfl, M2, hb⟩
  have Av := blk_below A2 hb
  have Rv := blk_below R2 hb
  have Ov := blk_below O2 hb
  have Hv := after H2 hb
  have sz2 := hb.size
  have M0' := M0.below hb
  have M1' := M1.below hb
  clear A2 R2 O2 H2 hb M0 M1
  have M0 := M0'
  clear M0'
  have M1 := M1'
  clear M1'
  have fo := blk_free Ov 2
  have qo2 := blk_cell Ov 2 _ rfl
  have qo0 := blk_cell Ov 0 _ rfl
  have qo1 := blk_cell Ov 1 _ rfl
  have z0 := blk_free Rv 0
  have y0 := blk_cell Rv 0 _ rfl
  have z1 := blk_free Rv 1
  have y1 := blk_cell Rv 1 _ rfl
  have z2 := blk_free Rv 2
  have y2 := blk_cell Rv 2 _ rfl
  go_wp2
  clear fo qo0 qo1 qo2 z0 y0 z1 y1 z2 y2
  obtain ⟨W3, hW⟩ : ∃ W, W = v2.setCell ⟨w.heap.size + 1 + 1, 2, none⟩ (.slice (some ⟨gbk, 0, none⟩) x.bkn x.bkn) := ⟨_, rfl⟩
  have hk : Kept v2 W3 (fun b => b = w.heap.size + 1 + 1) := by rw [hW]; exact kept_one _ _ _ _
  have A3 := hk.blk Av (by omega)
  have R3 := hk.blk Rv (by omega)
  have O3 : W3.heap[w.heap.size + 1 + 1]? = some (.cells #[.slice (some ⟨gsa, 0, none⟩) x.san x.san, .slice (some ⟨gld, 0, none⟩) x.ldn x.ldn, .slice (some ⟨gbk, 0, none⟩) x.bkn x.bkn] 35 (0, 0)) := by rw [hW]; exact off_set_2 Ov
  have H3 : Below w.heap.size w W3 := by rw [hW]; exact Hv.setCell (p := ⟨w.heap.size + 1 + 1, 2, none⟩) (by show w.heap.size ≤ w.heap.size + 1 + 1; omega) _
  have hz : W3.heap.size = v2.heap.size := by rw [hW, World.size_setCell]
  have M0' := M0.kept hk (fun b h => by left; omega)
  have M1' := M1.kept hk (fun b h => by left; omega)
  have M2' := M2.kept hk (fun b h => by left; omega)
  rw [← hW]
  rw [← hz] at M2' sz2
  clear hW hk Av Rv Ov Hv M0 M1 M2
  have M0 := M0'
  clear M0'
  have M1 := M1'
  clear M1'
  have M2 := M2'
  clear M2'
  obtain ⟨F, hF⟩ : ∃ F, F = ((W3.setCell ⟨w.heap.size + 1, 0, none⟩ (.slice (some ⟨gsa, 0, none⟩) x.san x.san)).setCell ⟨w.heap.size + 1, 1, none⟩ (.slice (some ⟨gld, 0, none⟩) x.ldn x.ldn)).setCell ⟨w.heap.size + 1, 2, none⟩ (.slice (some ⟨gbk, 0, none⟩) x.bkn x.bkn) := ⟨_, rfl⟩
  have hk : Kept W3 F (fun b => b = w.heap.size + 1) := by rw [hF]; exact (((Kept.refl W3 (fun b => b = w.heap.size + 1)).set (a := ⟨w.heap.size + 1, 0, none⟩) rfl _).set (a := ⟨w.heap.size + 1, 1, none⟩) rfl _).set (a := ⟨w.heap.size + 1, 2, none⟩) rfl _
  have RF : F.heap[w.heap.size + 1]? = some (.cells #[.slice (some ⟨gsa, 0, none⟩) x.san x.san, .slice (some ⟨gld, 0, none⟩) x.ldn x.ldn, .slice (some ⟨gbk, 0, none⟩) x.bkn x.bkn] 35 (0, 0)) := by rw [hF]; exact off_set_2 (off_set_1 (off_set_0 R3))
  have HF : Below w.heap.size w F := by rw [hF]; exact ((H3.setCell (p := ⟨w.heap.size + 1, 0, none⟩) (by show w.heap.size ≤ w.heap.size + 1; omega) _).setCell (p := ⟨w.heap.size + 1, 1, none⟩) (by show w.heap.size ≤ w.heap.size + 1; omega) _).setCell (p := ⟨w.heap.size + 1, 2, none⟩) (by show w.heap.size ≤ w.heap.size + 1; omega) _
  have hz : F.heap.size = W3.heap.size := by rw [hF, World.size_setCell, World.size_setCell, World.size_setCell]
  rw [← hF]
  clear hF
  have z0 := blk_cell RF 0 _ rfl
  have z1 := blk_cell RF 1 _ rfl
  have z2 := blk_cell RF 2 _ rfl
  have N0 := (M0.kept hk (fun b h => by left; omega)).wide (lo' := w.heap.size) (hi' := W1.heap.size) (by omega) (by omega)
  have N1 := (M1.kept hk (fun b h => by left; omega)).wide (lo' := W1.heap.size) (hi' := W2.heap.size) (by omega) (by omega)
  have N2 := (M2.kept hk (fun b h => by left; omega)).wide (lo' := W2.heap.size) (hi' := F.heap.size) (by omega) (by omega)
  exact bodyPost_ret (v := .agg #[.slice (some ⟨gsa, 0, none⟩) x.san x.san, .slice (some ⟨gld, 0, none⟩) x.ldn x.ldn, .slice (some ⟨gbk, 0, none⟩) x.bkn x.bkn]) (by simp [results, Tryz.results6, go_sem, z0, z1, z2]) rfl ⟨_, rfl, ⟨W1.heap.size, W2.heap.size, gsa, ls, cc, gld, C, gbk, E, rfl, ⟨by omega, by omega, by omega⟩, N0, N1, N2⟩, HF⟩

set_option maxHeartbeats 1600000 in
set_option maxRecDepth 100000 in
theorem eqOffice_same (cs ds : List Value) (x : Off) (w : World) (hs : Off.Short x 1048576) (h : Off.Is w cs x) (h' : Off.Is w ds x) :
    Calls Tryz.prog 9 #[.agg cs.toArray, .agg ds.toArray] w fun e w' => e = .returned (.bool true) ∧ Below w.heap.size w w' := by
  obtain ⟨asa, csa, ald, cld, abk, cbk, rfl, h1, s1, h2, s2, h3, s3⟩ := h
  obtain ⟨asb, csb, alb, clb, abb, cbb, rfl, k1, u1, k2, u2, k3, u3⟩ := h'
  obtain ⟨⟨b1, t1⟩, ⟨b2, t2⟩, ⟨b3, t3⟩⟩ := hs
  clear s1 s2 s3 u1 u2 u3
  have H0 : Below w.heap.size w ((w.alloc (.cells #[.slice asa x.san csa, .slice ald x.ldn cld, .slice abk x.bkn cbk] 35)).alloc (.cells #[.slice asb x.san csb, .slice alb x.ldn clb, .slice abb x.bkn cbb] 35)) := push (push (Below.refl _ _) _) _
  have A0 : ((w.alloc (.cells #[.slice asa x.san csa, .slice ald x.ldn cld, .slice abk x.bkn cbk] 35)).alloc (.cells #[.slice asb x.san csb, .slice alb x.ldn clb, .slice abb x.bkn cbb] 35)).heap[w.heap.size]? = some (.cells #[.slice asa x.san csa, .slice ald x.ldn cld, .slice abk x.bkn cbk] 35 (0, 0)) := blk_alloc (heap_alloc_new w _) _
  have B0 : ((w.alloc (.cells #[.slice asa x.san csa, .slice ald x.ldn cld, .slice abk x.bkn cbk] 35)).alloc (.cells #[.slice asb x.san csb, .slice alb x.ldn clb, .slice abb x.bkn cbb] 35)).heap[w.heap.size + 1]? = some (.cells #[.slice asb x.san csb, .slice alb x.ldn clb, .slice abb x.bkn cbb] 35 (0, 0)) := by simpa using heap_alloc_new (w.alloc _) _
  go_enter Tryz.func9, Tryz.ntmps9
  go_wp2_with fail
  generalize (w.alloc (.cells #[.slice asa x.san csa, .slice ald x.ldn cld, .slice abk x.bkn cbk] 35)).alloc (.cells #[.slice asb x.san csb, .slice alb x.ldn clb, .slice abb x.bkn cbb] 35) = v at H0 A0 B0 ⊢
  refine (eqSailingS_same asa asb x.san csa csb x.sa _ b1 t1 (h1.below H0) (k1.below H0)).mono ?_
  rintro e v0 ⟨rfl, hb⟩
  have A1 := blk_below A0 hb
  have B1 := blk_below B0 hb
  have H1 := after H0 hb
  clear A0 B0 H0 hb
  have qa := blk_cell A1 1 _ rfl
  have qb := blk_cell B1 1 _ rfl
  go_wp2_with fail
  clear qa qb
  refine (eqLoadS_same ald alb x.ldn cld clb x.ld _ b2 t2 (h2.below H1) (k2.below H1)).mono ?_
  rintro e v1 ⟨rfl, hb⟩
  have A2 := blk_below A1 hb
  have B2 := blk_below B1 hb
  have H2 := after H1 hb
  clear A1 B1 H1 hb
  have qa := blk_cell A2 2 _ rfl
  have qb := blk_cell B2 2 _ rfl
  go_wp2_with fail
  clear qa qb
  refine (eqBookingS_same abk abb x.bkn cbk cbb x.bk _ b3 t3 (h3.below H2) (k3.below H2)).mono ?_
  rintro e v2 ⟨rfl, hb⟩
  have A3 := blk_below A2 hb
  have B3 := blk_below B2 hb
  have H3 := after H2 hb
  clear A2 B2 H2 hb
  go_wp2
  go_ret
  exact ⟨rfl, H3⟩

end Go.Proofs.YtcioofnmhfehaaaGreat

namespace Go.Proofs.YtcioofnmhfehaaaGreat
open Go.RowKit

set_option maxHeartbeats 1600000 in
set_option maxRecDepth 100000 in
theorem szSailingS_to (ao : Option Addr) (N c : Nat) (S : Nat → Sail) (L0 : Int) (w : World) (hl0 : 0 ≤ L0) (hl1 : L0 ≤ 1048576) (hN : N ≤ 1000000000000000) (hs : ShortAll N S 1000000000000000) (hx : SailsAt w ao N S) :
    Calls Tryz.prog 13 #[.slice ao N c, .int .i64 L0] w fun e w' => ∃ r : Int, e = .returned (.int .i64 r) ∧ (r = -1 ∨ (0 ≤ r ∧ r ≤ L0 ∧ N ≤ 1048576 ∧ ShortAll N S 1048576)) ∧ Below w.heap.size w w' := by
  have HS : Hid (ShortAll N S 1000000000000000) := hs
  clear hs
  by_cases hf : (N : Int) ≤ L0
  · have d0 : decide (L0 - (N : Int) < 0) = false := by simp; omega
    go_enter Tryz.func13, Tryz.ntmps13
    go_wp2
    go_loopw [1, 5] (fun l i wr => ∃ (k : Nat) (L : Int), k ≤ N ∧ i = .int .i64 k ∧ l = .int .i64 L ∧ 0 ≤ L ∧ L ≤ L0 ∧ ShortAll k S 1048576 ∧ Below w.heap.size w wr) (fun _ i _ => N - (intOf i).toNat)
    case atStart => exact ⟨0, _, Nat.zero_le _, rfl, rfl, by omega, by omega, fun i hi => by omega, Below.refl _ _⟩
    case round =>
      obtain ⟨k, L, hk, rfl, rfl, l0, l1, hst, hbel⟩ := hrel
      have HT : Hid (ShortAll k S 1048576) := hst
      clear hst d0
      by_cases hlt : k < N
      · obtain ⟨b, off, la, lc, ca, cc, rfl, h0, h1, h2, h3, h4, h5, h6, h7, h8, h9, h10, h11⟩ := hx k hlt
        have hb := World.block_lt_of_cell? w _ h1
        have c0 := (hbel.cell (p := ⟨b, off + k * 8, none⟩) hb).trans h0
        have c1 := (hbel.cell (p := ⟨b, off + k * 8 + 1, none⟩) hb).trans h1
        have c2 := (hbel.cell (p := ⟨b, off + k * 8 + 2, none⟩) hb).trans h2
        have c3 := (hbel.cell (p := ⟨b, off + k * 8 + 3, none⟩) hb).trans h3
        have c4 := (hbel.cell (p := ⟨b, off + k * 8 + 4, none⟩) hb).trans h4
        have c5 := (hbel.cell (p := ⟨b, off + k * 8 + 5, none⟩) hb).trans h5
        have c6 := (hbel.cell (p := ⟨b, off + k * 8 + 6, none⟩) hb).trans h6
        have c7 := (hbel.cell (p := ⟨b, off + k * 8 + 7, none⟩) hb).trans h7
        obtain ⟨s1, s2, s3, s4⟩ := HS.out k hlt
        clear h0 h1 h2 h3 h4 h5 h6 h7 h8 h9 h10 h11
        go_wp2_with fail
        refine (szSailing_any _ _ _ _ _ _ _ _ _ _ _ _ L _ l0 (by omega) s1 s2 s3 s4).mono ?_
        rintro e w2 ⟨r, rfl, hr, hb3⟩
        rcases hr with rfl | ⟨r0, r1, r2, r3, r4, r5⟩
        · go_wp2
          go_ret
          exact ⟨_, rfl, .inl rfl, after hbel hb3⟩
        · have d1 : decide (r < 0) = false := by simpa using r0
          go_wp2
          go_roundw
          case rel =>
            refine ⟨k + 1, r, by omega, by go_num, rfl, r0, by omega, fun i hi => ?_, after hbel hb3⟩
            by_cases e : i = k
            · subst e; exact ⟨r2, r3, r4, r5⟩
            · exact HT.out i (by omega)
          case measure => simp [intOf]; omega
      · obtain rfl : k = N := by omega
        go_wp2
        go_ret
        exact ⟨_, rfl, .inr ⟨l0, l1, by omega, HT.out⟩, hbel⟩
  · have d0 : decide (L0 - (N : Int) < 0) = true := by simp; omega
    go_enter Tryz.func13, Tryz.ntmps13
    go_wp2
    go_ret
    exact ⟨_, rfl, .inl rfl, Below.refl _ _⟩

set_option maxHeartbeats 800000 in
theorem szOffice_next (cs : List Value) (x : Off) (L0 : Int) (w : World) (hl0 : 0 ≤ L0) (hl1 : L0 ≤ 1048576) (hs : Off.Short x 1000000000000000) (h : Off.Is w cs x) :
    Calls Tryz.prog 4 #[.agg cs.toArray, .int .i64 L0] w fun e w' => ∃ r : Int, e = .returned (.int .i64 r) ∧ (r = -1 ∨ (0 ≤ r ∧ r ≤ L0 ∧ Off.Short x 1048576)) ∧ Below w.heap.size w w' := by
  obtain ⟨asa, csa, ald, cld, abk, cbk, rfl, h1, s1, h2, s2, h3, s3⟩ := h
  obtain ⟨⟨b1, t1⟩, ⟨b2, t2⟩, ⟨b3, t3⟩⟩ := hs
  have hb0 : Below w.heap.size w (w.alloc (.cells #[.slice asa x.san csa, .slice ald x.ldn cld, .slice abk x.bkn cbk] 26)) := push (Below.refl _ _) _
  have hA0 := heap_alloc_new w (.cells #[.slice asa x.san csa, .slice ald x.ldn cld, .slice abk x.bkn cbk] 26)
  clear s1 s2 s3
  go_enter Tryz.func4, Tryz.ntmps4
  go_wp2_with fail
  refine (szSailingS_to asa x.san csa x.sa L0 _ hl0 hl1 b1 t1 (h1.below hb0)).mono ?_
  rintro e v1 ⟨r1, rfl, hr1, hb⟩
  have hA1 := blk_below hA0 hb
  have hb1 := after hb0 hb
  clear hA0 hb0 hb
  rcases hr1 with rfl | ⟨p1, p2, p3, p4⟩
  · go_wp2
    go_ret
    exact ⟨_, rfl, .inl rfl, hb1⟩
  · have d1 : decide (r1 < 0) = false := by simpa using p1
    have q1 := blk_cell hA1 1 _ rfl
    go_wp2_with fail
    refine (szLoadS_any ald x.ldn cld x.ld r1 _ p1 (by omega) b2 t2 (h2.below hb1)).mono ?_
    rintro e v2 ⟨r2, rfl, hr2, hb⟩
    have hA2 := blk_below hA1 hb
    have hb2 := after hb1 hb
    clear hA1 hb1 hb q1
    rcases hr2 with rfl | ⟨q1, q2, q3, q4⟩
    · go_wp2
      go_ret
      exact ⟨_, rfl, .inl rfl, hb2⟩
    · have d2 : decide (r2 < 0) = false := by simpa using q1
      have k2 := blk_cell hA2 2 _ rfl
      go_wp2_with fail
      refine (szBookingS_any abk x.bkn cbk x.bk r2 _ q1 (by omega) b3 t3 (h3.below hb2)).mono ?_
      rintro e v3 ⟨r3, rfl, hr3, hb⟩
      have hb3 := after hb2 hb
      clear hb2 hb k2
      rcases hr3 with rfl | ⟨u1, u2, u3, u4⟩
      · go_wp2
        go_ret
        exact ⟨_, rfl, .inl rfl, hb3⟩
      · have d3 : decide (r3 < 0) = false := by simpa using u1
        go_wp2
        go_ret
        exact ⟨_, rfl, .inr ⟨u1, by omega, ⟨p3, p4⟩, ⟨q3, q4⟩, ⟨u3, u4⟩⟩, hb3⟩

end Go.Proofs.YtcioofnmhfehaaaGreat
