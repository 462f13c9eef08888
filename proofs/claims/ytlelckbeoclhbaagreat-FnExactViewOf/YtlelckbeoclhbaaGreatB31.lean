/-
  OWN TEXT: SpecVw, MarkVw, LPair, LSail.
-/
import Derived.Deep.DeepCutAuto
import Derived.Test.YtlelckbeoclhbaaGreatRows
import Derived.Deep.RegionHeld3
import Derived.Test.YtlelckbeoclhbaaGreatB26
import Derived.Test.YtlelckbeoclhbaaGreatB30
import Derived.Test.YtlelckbeoclhbaaGreatB28
import Derived.Test.YtlelckbeoclhbaaGreatB08
import Derived.Test.YtlelckbeoclhbaaGreatB09
import Derived.Test.YtlelckbeoclhbaaGreatB00
set_option maxHeartbeats 12800000
set_option maxRecDepth 100000
namespace Go.Proofs.YtlelckbeoclhbaaGreat
open Go.RowKit Classical
theorem Tryz.infoSI : (Tryz.prog.info? 31).map (fun i => (i.zero, i.size, i.bytes)) = some (some (.slice none 0 0), 1, 24) := by kernel_rfl
theorem Tryz.infoSR : (Tryz.prog.info? 55).map (fun i => (i.zero, i.size, i.bytes)) = some (some (.slice none 0 0), 1, 24) := by kernel_rfl
theorem Tryz.sizeVw : (Tryz.prog.info? 33).map (·.size) = some 5 := by kernel_rfl
theorem specView_raw (x : Off) (asa ald abk : Option Addr) (csa cld cbk : Nat) (w : World) (hs : Off.Short x 1048576) (hsa : SailsAt w asa x.san x.sa) (hld : LoadsAt w ald x.ldn x.ld) (hbk : BooksAt w abk x.bkn x.bk) (hcb : x.bkn ≤ cbk) :
    Calls Tryz.prog 5 #[.agg #[.slice asa x.san csa, .slice ald x.ldn cld, .slice abk x.bkn cbk]] w fun e w' => (∃ ab cb ar cr al cl aq cq ap cp, e = .returned (.tuple #[.agg #[.slice ab (viewA x).bn cb, .slice ar (viewA x).N cr, .slice al (viewA x).N cl, .slice aq (viewA x).N cq, .slice ap (viewA x).N cp], .bool (decide (OffOk x))]) ∧ ViewAt w' ab ar al aq ap (viewA x)) ∧ Below w.heap.size w w' := by
  obtain ⟨i0, ii, iz0, iz1, iz2⟩ := info_parts Tryz.infoSI
  obtain ⟨r0, ri, rz0, rz1, rz2⟩ := info_parts Tryz.infoSR
  obtain ⟨p0, pi, pz0, pz1, pz2⟩ := info_parts Tryz.infoInt
  have HSH : Hid (Off.Short x 1048576) := hs
  have HSA : Hid (SailsAt w asa x.san x.sa) := hsa
  have HLD : Hid (LoadsAt w ald x.ldn x.ld) := hld
  have HBK : Hid (BooksAt w abk x.bkn x.bk) := hbk
  have hb0 : Below w.heap.size w ((w.alloc (.cells #[.slice asa x.san csa, .slice ald x.ldn cld, .slice abk x.bkn cbk] 39)).alloc (.cells #[.slice none 0 0, .slice none 0 0, .slice none 0 0, .slice none 0 0, .slice none 0 0] 33)) := push (push (Below.refl _ _) _) _
  have bO : ((w.alloc (.cells #[.slice asa x.san csa, .slice ald x.ldn cld, .slice abk x.bkn cbk] 39)).alloc (.cells #[.slice none 0 0, .slice none 0 0, .slice none 0 0, .slice none 0 0, .slice none 0 0] 33)).heap[w.heap.size]? = some (.cells #[.slice asa x.san csa, .slice ald x.ldn cld, .slice abk x.bkn cbk] 39 (0, 0)) := blk_alloc (heap_alloc_new w _) _
  have bR : ((w.alloc (.cells #[.slice asa x.san csa, .slice ald x.ldn cld, .slice abk x.bkn cbk] 39)).alloc (.cells #[.slice none 0 0, .slice none 0 0, .slice none 0 0, .slice none 0 0, .slice none 0 0] 33)).heap[w.heap.size + 1]? = some (.cells #[.slice none 0 0, .slice none 0 0, .slice none 0 0, .slice none 0 0, .slice none 0 0] 33 (0, 0)) := by
    have h := heap_alloc_new (w.alloc (.cells #[.slice asa x.san csa, .slice ald x.ldn cld, .slice abk x.bkn cbk] 39)) (.cells #[.slice none 0 0, .slice none 0 0, .slice none 0 0, .slice none 0 0, .slice none 0 0] 33)
    rw [show (w.alloc (.cells #[.slice asa x.san csa, .slice ald x.ldn cld, .slice abk x.bkn cbk] 39)).heap.size = w.heap.size + 1 by simp] at h
    exact h
  clear hs hsa hld hbk
  go_enter Tryz.func5, Tryz.ntmps5
  go_upto_region 1 with fail
  generalize (w.alloc (.cells #[.slice asa x.san csa, .slice ald x.ldn cld, .slice abk x.bkn cbk] 39)).alloc (.cells #[.slice none 0 0, .slice none 0 0, .slice none 0 0, .slice none 0 0, .slice none 0 0] 33) = U0 at hb0 bO bR ⊢
  have o0 := blk_cell bO 0 _ rfl
  have o1 := blk_cell bO 1 _ rfl
  have o2 := blk_cell bO 2 _ rfl
  go_wp2_with fail
  refine (specOff_raw x asa ald abk csa cld cbk U0 HSH.out (HSA.out.below hb0) (HLD.out.below hb0) (HBK.out.below hb0) hcb).mono ?_
  rintro e U1 ⟨hok, hb1⟩
  replace bO := blk_below bO hb1
  replace bR := blk_below bR hb1
  have hbw1 := after hb0 hb1
  clear o0 o1 o2 hb1
  have hRb0 : w.heap.size + 1 < U1.heap.size := blk_lt bR
  obtain rfl := says_decide hok
  clear hok
  by_cases hof : OffOk x
  case neg =>
    have HV : Hid (viewA x = noView) := viewA_no hof
    have ed : decide (OffOk x) = false := decide_eq_false hof
    rw [ed]
    have z0 := blk_cell bR 0 _ rfl
    have z1 := blk_cell bR 1 _ rfl
    have z2 := blk_cell bR 2 _ rfl
    have z3 := blk_cell bR 3 _ rfl
    have z4 := blk_cell bR 4 _ rfl
    have f0 := blk_free bR 0
    have f1 := blk_free bR 1
    have f2 := blk_free bR 2
    have f3 := blk_free bR 3
    have f4 := blk_free bR 4
    have rF := blk_set (blk_set (blk_set (blk_set (blk_set bR 0 (.slice none 0 0)) 1 (.slice none 0 0)) 2 (.slice none 0 0)) 3 (.slice none 0 0)) 4 (.slice none 0 0)
    have hbF : Below w.heap.size w (((((U1.setCell ⟨w.heap.size + 1, 0, none⟩ (.slice none 0 0)).setCell ⟨w.heap.size + 1, 1, none⟩ (.slice none 0 0)).setCell ⟨w.heap.size + 1, 2, none⟩ (.slice none 0 0)).setCell ⟨w.heap.size + 1, 3, none⟩ (.slice none 0 0)).setCell ⟨w.heap.size + 1, 4, none⟩ (.slice none 0 0)) := setV (setV (setV (setV (setV hbw1 (by omega) _) (by omega) _) (by omega) _) (by omega) _) (by omega) _
    go_wp2
    generalize ((((U1.setCell ⟨w.heap.size + 1, 0, none⟩ (.slice none 0 0)).setCell ⟨w.heap.size + 1, 1, none⟩ (.slice none 0 0)).setCell ⟨w.heap.size + 1, 2, none⟩ (.slice none 0 0)).setCell ⟨w.heap.size + 1, 3, none⟩ (.slice none 0 0)).setCell ⟨w.heap.size + 1, 4, none⟩ (.slice none 0 0) = UF at rF hbF ⊢
    clear z0 z1 z2 z3 z4 f0 f1 f2 f3 f4
    have z0 := blk_cell rF 0 _ rfl
    have z1 := blk_cell rF 1 _ rfl
    have z2 := blk_cell rF 2 _ rfl
    have z3 := blk_cell rF 3 _ rfl
    have z4 := blk_cell rF 4 _ rfl
    refine bodyPost_ret (v := .tuple #[.agg #[.slice none 0 0, .slice none 0 0, .slice none 0 0, .slice none 0 0, .slice none 0 0], .bool false]) (by simp [results, Tryz.results5, go_sem, z0, z1, z2, z3, z4]) rfl ⟨?_, hbF⟩
    rw [HV.out, ed]
    exact ⟨none, 0, none, 0, none, 0, none, 0, none, 0, rfl, ⟨⟨fun _ => [], fun k hk => absurd hk (Nat.not_lt_zero _), fun k hk => absurd hk (Nat.not_lt_zero _)⟩, fun k hk => absurd hk (Nat.not_lt_zero _), fun k hk => absurd hk (Nat.not_lt_zero _), fun k hk => absurd hk (Nat.not_lt_zero _), fun k hk => absurd hk (Nat.not_lt_zero _)⟩⟩
  case pos =>
  have HOK : Hid (OffOk x) := hof
  have ed : decide (OffOk x) = true := decide_eq_true hof
  have hbn : x.bkn ≤ 30 := hof.2.2.1
  have hsn : x.san ≤ 6 := hof.1.1
  have HLN : Hid (x.ldn = x.san) := hof.2.1
  rw [ed]
  clear hof
  have o0 := blk_cell bO 0 _ rfl
  have o1 := blk_cell bO 1 _ rfl
  have o2 := blk_cell bO 2 _ rfl
  go_wp2_with fail
  refine (l7Own_any asa ald abk x.san x.ldn x.bkn csa cld cbk x U1 rfl rfl rfl HSH.out (HSA.out.below hbw1) (HLD.out.below hbw1) (HBK.out.below hbw1)).mono ?_
  rintro e U2 ⟨⟨a1, c1, a2, c2, a3, c3, L0, C0, A0, B0, D0, E, rfl, hO⟩, hb2⟩
  replace bR := blk_below bR hb2
  have hble0 : U1.heap.size ≤ U2.heap.size := hb2.size
  have hRb : w.heap.size + 1 < U1.heap.size := hRb0
  have hbw2 := after hbw1 hb2
  clear o0 o1 o2 bO hb0
  have bX := heap_alloc_new U2 (.cells #[.slice a1 x.san c1, .slice a2 x.ldn c2, .slice a3 x.bkn c3] 39)
  have hbw3 : Below w.heap.size w (U2.alloc (.cells #[.slice a1 x.san c1, .slice a2 x.ldn c2, .slice a3 x.bkn c3] 39)) := push hbw2 _
  have bR3 := blk_alloc bR (.cells #[.slice a1 x.san c1, .slice a2 x.ldn c2, .slice a3 x.bkn c3] 39)
  have HO0 : Hid (OwnOff (U2.alloc (.cells #[.slice a1 x.san c1, .slice a2 x.ldn c2, .slice a3 x.bkn c3] 39)) U1.heap.size (.slice a1 x.san c1) (.slice a2 x.ldn c2) (.slice a3 x.bkn c3) x.san x.ldn x.bkn x L0 C0 A0 B0 D0 E) := hO.below (push (Below.refl _ _) _)
  go_upto_region 4 with fail
  generalize hW0 : U2.alloc (.cells #[.slice a1 x.san c1, .slice a2 x.ldn c2, .slice a3 x.bkn c3] 39) = W0 at bX hbw3 bR3 HO0 ⊢
  have hXlt : U2.heap.size < W0.heap.size := blk_lt bX
  clear hO bR hb2 hbw1 hbw2 hW0 hRb0
  generalize U2.heap.size = xb at bX hXlt hble0 ⊢
  generalize U1.heap.size = base at HO0 hble0 hRb ⊢
  have x2 := blk_cell bX 2 _ rfl
  have VB := heap_alloc_new W0 (.cells #[.slice a3 x.bkn c3, .slice none 0 0, .slice none 0 0, .slice none 0 0, .slice none 0 0] 33)
  have hVb : Below W0.heap.size W0 (W0.alloc (.cells #[.slice a3 x.bkn c3, .slice none 0 0, .slice none 0 0, .slice none 0 0, .slice none 0 0] 33)) := push (Below.refl _ _) _
  have hble : base ≤ W0.heap.size := by omega
  have HT0 : Hid (VTo (W0.alloc (.cells #[.slice a3 x.bkn c3, .slice none 0 0, .slice none 0 0, .slice none 0 0, .slice none 0 0] 33)) base W0.heap.size (viewW x) 0 0 0 0 (.slice a3 x.bkn c3) (.slice none 0 0) (.slice none 0 0) (.slice none 0 0) (.slice none 0 0) E (fun _ => .slice none 0 0) (fun _ => .slice none 0 0) (fun _ => .slice none 0 0)) :=
    ⟨HO0.out.bk.below hVb, (by rintro b (q | ⟨i, hi, q⟩); exact (HO0.out.bk.row.lt b q).2; exact ((HO0.out.bk.legs i hi).lt b q).2), OwnSS.nil _ _ _ _ _ _ _ _, OwnSS.nil _ _ _ _ _ _ _ _, OwnSS.nil _ _ _ _ _ _ _ _, ⟨rfl, .inl ⟨rfl, rfl⟩⟩, fun i j hi => absurd hi (Nat.not_lt_zero _), fun i hi => absurd hi (Nat.not_lt_zero _), fun i hi => absurd hi (Nat.not_lt_zero _), fun b q => by simp [Value.ownBlock] at q, hble⟩
  have X0 : ∀ u, Below W0.heap.size W0 u → u.cell? ⟨xb, 0, none⟩ = some (.slice a1 x.san c1) ∧ u.cell? ⟨xb, 1, none⟩ = some (.slice a2 x.ldn c2) ∧ u.cell? ⟨xb, 2, none⟩ = some (.slice a3 x.bkn c3) := fun u h => ⟨blk_cell (blk_below bX h) 0 _ rfl, blk_cell (blk_below bX h) 1 _ rfl, blk_cell (blk_below bX h) 2 _ rfl⟩
  have HX : Hid (∀ u, Below W0.heap.size W0 u → u.cell? ⟨xb, 0, none⟩ = some (.slice a1 x.san c1) ∧ u.cell? ⟨xb, 1, none⟩ = some (.slice a2 x.ldn c2) ∧ u.cell? ⟨xb, 2, none⟩ = some (.slice a3 x.bkn c3)) := X0
  clear X0
  go_upto_region 5 with fail
  generalize W0.alloc (.cells #[.slice a3 x.bkn c3, .slice none 0 0, .slice none 0 0, .slice none 0 0, .slice none 0 0] 33) = Y0 at VB hVb HT0 ⊢
  clear x2
  obtain ⟨x0, _, _⟩ := HX.out Y0 hVb
  go_wp2
  clear x0
  go_loopw [6, 7, 20] (fun _ _ i wr => ∃ (k : Nat) (ar al aq ap : Option Addr) (cr cl cq cp : Nat) (R L Q : Nat → Value), k ≤ x.san ∧ i = .int .i64 k ∧ Hid (VTo wr base W0.heap.size (viewW x) k k k k (.slice a3 x.bkn c3) (.slice ar k cr) (.slice al k cl) (.slice aq k cq) (.slice ap k cp) E R L Q) ∧ Hid (wr.heap[W0.heap.size]? = some (.cells #[.slice a3 x.bkn c3, .slice ar k cr, .slice al k cl, .slice aq k cq, .slice ap k cp] 33 (0, 0))) ∧ Hid (Below W0.heap.size W0 wr)) (fun _ _ i _ => x.san - (intOf i).toNat)
  case atStart => exact ⟨0, none, none, none, none, 0, 0, 0, 0, _, _, _, Nat.zero_le _, rfl, HT0, VB, hVb⟩
  case round =>
    clear HT0 VB hVb
    obtain ⟨k, ar, al, aq, ap, cr, cl, cq, cp, R, L, Q, hk, rfl, HT, HVX, HBL⟩ := hrel
    by_cases hlt : k < x.san
    · obtain ⟨sgb, soff, la, lc, ca, cc, ea1, s0, s1, s2, s3, s4, s5, s6, s7, hla, hca, sla, sca⟩ := (HO0.out.sa.at) k hlt
      subst ea1
      obtain ⟨CL, hCL, hIL⟩ := HO0.out.ld.at
      obtain ⟨lb, lo, ea2, hcl⟩ := hCL k (by have := HLN.out; omega)
      subst ea2
      obtain ⟨ast, cst, aro, cro, ase, cse, eCL, hst, sst, hro, sro, hse, sse⟩ := hIL k (by have := HLN.out; omega)
      have hsb := World.block_lt_of_cell? W0 _ s1
      have llb : lb < W0.heap.size := World.block_lt_of_cell? W0 _ (hcl 0 (by decide))
      have HLC : Hid (∀ u, Below W0.heap.size W0 u → u.cell? ⟨lb, lo + k * 3, none⟩ = some (.slice ast (x.ld k).stn cst) ∧ u.cell? ⟨lb, lo + k * 3 + 1, none⟩ = some (.slice aro (x.ld k).ron cro) ∧ u.cell? ⟨lb, lo + k * 3 + 2, none⟩ = some (.slice ase (x.ld k).sen cse)) := fun u h =>
        ⟨(h.cell (p := ⟨lb, lo + k * 3, none⟩) llb).trans (by have := hcl 0 (by decide); rw [eCL] at this; exact this), (h.cell (p := ⟨lb, lo + k * 3 + 1, none⟩) llb).trans (by have := hcl 1 (by decide); rw [eCL] at this; exact this), (h.cell (p := ⟨lb, lo + k * 3 + 2, none⟩) llb).trans (by have := hcl 2 (by decide); rw [eCL] at this; exact this)⟩
      have hp := HOK.out.2.2.2.1 k hlt
      have HP : Hid (LoadOk (x.sa k) (x.ld k)) := hp
      have HRD : Hid (PairsAt W0 la (x.sa k).la ∧ PairsAt W0 ca (x.sa k).ca ∧ StaysAt W0 ast (x.ld k).stn (x.ld k).st ∧ RoomsAt W0 aro (x.ld k).ron (x.ld k).ro ∧ SeatsAt W0 ase (x.ld k).sen (x.ld k).se) := ⟨hla, hca, hst, hro, hse⟩
      have HIX : Hid (findIx x.sa (x.sa k).id x.san = k) := findIx_is hlt rfl (fun j hj e => by have := ids_up HOK.out j k hj hlt; omega)
      have d0 := (HBL.out.cell (p := ⟨sgb, soff + k * 8, none⟩) hsb).trans s0
      have d1 := (HBL.out.cell (p := ⟨sgb, soff + k * 8 + 1, none⟩) hsb).trans s1
      have d2 := (HBL.out.cell (p := ⟨sgb, soff + k * 8 + 2, none⟩) hsb).trans s2
      have d3 := (HBL.out.cell (p := ⟨sgb, soff + k * 8 + 3, none⟩) hsb).trans s3
      have d4 := (HBL.out.cell (p := ⟨sgb, soff + k * 8 + 4, none⟩) hsb).trans s4
      have d5 := (HBL.out.cell (p := ⟨sgb, soff + k * 8 + 5, none⟩) hsb).trans s5
      have d6 := (HBL.out.cell (p := ⟨sgb, soff + k * 8 + 6, none⟩) hsb).trans s6
      have d7 := (HBL.out.cell (p := ⟨sgb, soff + k * 8 + 7, none⟩) hsb).trans s7
      have i1 : (k : Int) < (x.san : Int) := by omega
      have i2 : (k : Int) < (x.ldn : Int) := by have := HLN.out; omega
      have HS0 : Hid (SVt W0 (wr.alloc (.cells #[.int .i64 (x.sa k).id, .string (x.sa k).fr, .string (x.sa k).dst, .int .i64 (x.sa k).dep, .int .i64 (x.sa k).arr, .slice la (x.sa k).la.n lc, .slice ca (x.sa k).ca.n cc, .int .i64 (x.sa k).most] 54)) base (viewW x) (k) (k) (k) (k) wr.heap.size 54 #[.int .i64 (x.sa k).id, .string (x.sa k).fr, .string (x.sa k).dst, .int .i64 (x.sa k).dep, .int .i64 (x.sa k).arr, .slice la (x.sa k).la.n lc, .slice ca (x.sa k).ca.n cc, .int .i64 (x.sa k).most] (.slice a3 x.bkn c3) (.slice ar k cr) (.slice al k cl) (.slice aq k cq) (.slice ap k cp) (.slice ar k cr) (.slice al k cl) (.slice aq k cq) (.slice ap k cp) E R L Q) := ⟨HT.out.below (push (Below.refl _ _) _), blk_alloc HVX.out _, heap_alloc_new wr _, after HBL.out (push (Below.refl _ _) _), blk_lt HVX.out⟩
      clear s0 s1 s2 s3 s4 s5 s6 s7 hla hca sla sca hst sst hro sro hse sse hCL hIL hcl eCL hp HT HVX HBL
      go_upto_region 8 with fail
      generalize wr.alloc (.cells #[.int .i64 (x.sa k).id, .string (x.sa k).fr, .string (x.sa k).dst, .int .i64 (x.sa k).dep, .int .i64 (x.sa k).arr, .slice la (x.sa k).la.n lc, .slice ca (x.sa k).ca.n cc, .int .i64 (x.sa k).most] 54) = Y1 at HS0 ⊢
      clear d0 d1 d2 d3 d4 d5 d6 d7
      generalize wr.heap.size = sb at HS0 ⊢
      have HD0 : Hid (SVt W0 Y1.drew base (viewW x) (k) (k) (k) (k) sb 54 #[.int .i64 (x.sa k).id, .string (x.sa k).fr, .string (x.sa k).dst, .int .i64 (x.sa k).dep, .int .i64 (x.sa k).arr, .slice la (x.sa k).la.n lc, .slice ca (x.sa k).ca.n cc, .int .i64 (x.sa k).most] (.slice a3 x.bkn c3) (.slice ar k cr) (.slice al k cl) (.slice aq k cq) (.slice ap k cp) (.slice ar k cr) (.slice al k cl) (.slice aq k cq) (.slice ap k cp) E R L Q) := HS0.out.below (Below.refl _ _).drew
      clear HS0
      refine wp_region_z 9 10 (fun w' => w'.cell? ⟨W0.heap.size, 1, none⟩ = some (.slice ar k cr) ∧ w'.cell? ⟨xb, 0, none⟩ = some (.slice (some ⟨sgb, soff, none⟩) x.san c1) ∧ w'.cell? ⟨xb, 1, none⟩ = some (.slice (some ⟨lb, lo, none⟩) x.ldn c2) ∧ w'.cell? ⟨xb, 2, none⟩ = some (.slice a3 x.bkn c3) ∧ w'.cell? ⟨sb, 0, none⟩ = some (.int .i64 (x.sa k).id)) rfl (by kernel_rfl) ⟨blk_cell HD0.out.box 1 _ rfl, (HX.out _ HD0.out.bel).1, (HX.out _ HD0.out.bel).2.1, (HX.out _ HD0.out.bel).2.2, blk_cell HD0.out.sbx 0 _ rfl⟩ (fun hS => ?_)
      simp only [List.replicate_succ, List.replicate_zero]
      generalize Y1.drew = y0 at HD0 hS ⊢
      (refine wpAnyZ_takeL (i := 0) (v := ?_) rfl (by kernel_rfl) (fun _ _ _ h => h) (Or.inl ⟨by rfl, ?_⟩) (by assumption) ?_; rotate_left; (focus (intro w' hSw; (try dsimp only at hSw); go_simp; try with_reducible rfl)); simp only [Act.put, List.setIfInBounds_toArray, List.set_cons_zero, List.set_cons_succ])
      (refine wpAnyZ_takeL (i := 1) (v := ?_) rfl (by kernel_rfl) (fun _ _ _ h => h) (Or.inl ⟨by rfl, ?_⟩) (by assumption) ?_; rotate_left; (focus (intro w' hSw; (try dsimp only at hSw); go_simp; try with_reducible rfl)); simp only [Act.put, List.setIfInBounds_toArray, List.set_cons_zero, List.set_cons_succ])
      (refine wpAnyZ_takeL (i := 2) (v := ?_) rfl (by kernel_rfl) (fun _ _ _ h => h) (Or.inl ⟨by rfl, ?_⟩) (by assumption) ?_; rotate_left; (focus (intro w' hSw; (try dsimp only at hSw); go_simp; try with_reducible rfl)); simp only [Act.put, List.setIfInBounds_toArray, List.set_cons_zero, List.set_cons_succ])
      (refine wpAnyZ_takeL (i := 3) (v := ?_) rfl (by kernel_rfl) (fun _ _ _ h => h) (Or.inl ⟨by rfl, ?_⟩) (by assumption) ?_; rotate_left; (focus (intro w' hSw; (try dsimp only at hSw); go_simp; try with_reducible rfl)); simp only [Act.put, List.setIfInBounds_toArray, List.set_cons_zero, List.set_cons_succ])
      (refine wpAnyZ_takeL (i := 4) (v := ?_) rfl (by kernel_rfl) (fun _ _ _ h => h) (Or.inl ⟨by rfl, ?_⟩) (by assumption) ?_; rotate_left; (focus (intro w' hSw; (try dsimp only at hSw); go_simp; try with_reducible rfl)); simp only [Act.put, List.setIfInBounds_toArray, List.set_cons_zero, List.set_cons_succ])
      refine wpAnyZ_ready (rs := [5]) (by kernel_rfl) (by simp) ?_
      refine AllReadyZ.consL rfl (fun K hK => ?_) AllReadyZ.nil
      go_simp
      go_at_call 18
      refine Calls.mono (specRows_raw x (some ⟨sgb, soff, none⟩) (some ⟨lb, lo, none⟩) a3 c1 c2 c3 k (x.sa k).id y0 HSH.out (HO0.out.sa.at.below HD0.out.bel) (HO0.out.ld.at.below HD0.out.bel) (HO0.out.bk.at.below HD0.out.bel) hbn HIX.out hlt HLN.out) ?_
      rintro e y1 ⟨⟨v, rfl, ho⟩, hb⟩
      dsimp only
      obtain ⟨av1, cv1, rfl, _⟩ := own_form ho
      have HD1 : Hid (SVt W0 y1 base (viewW x) (k) (k) (k) (k) sb 54 #[.int .i64 (x.sa k).id, .string (x.sa k).fr, .string (x.sa k).dst, .int .i64 (x.sa k).dep, .int .i64 (x.sa k).arr, .slice la (x.sa k).la.n lc, .slice ca (x.sa k).ca.n cc, .int .i64 (x.sa k).most] (.slice a3 x.bkn c3) (.slice ar k cr) (.slice al k cl) (.slice aq k cq) (.slice ap k cp) (.slice ar k cr) (.slice al k cl) (.slice aq k cq) (.slice ap k cp) E R L Q) := HD0.out.below hb
      have HRV : Hid (y1.ownsRow y0.heap.size 116 5 (.slice av1 ((rowsL (x.ld k) x.bk (x.sa k).id x.bkn).length) cv1) ((rowsL (x.ld k) x.bk (x.sa k).id x.bkn).length) (rowList (nthR (rowsL (x.ld k) x.bk (x.sa k).id x.bkn)) (rowsL (x.ld k) x.bk (x.sa k).id x.bkn).length)) := ho
      refine hK.out _ _ ⟨blk_cell HD1.out.box 1 _ rfl, (HX.out _ HD1.out.bel).1, (HX.out _ HD1.out.bel).2.1, (HX.out _ HD1.out.bel).2.2, blk_cell HD1.out.sbx 0 _ rfl⟩ (fun hS => ?_)
      clear hK K hb ho
      simp only [List.set_cons_zero, List.set_cons_succ]
      refine wpAnyZ_ready (rs := [6]) (by kernel_rfl) (by simp) ?_
      refine AllReadyZ.consL rfl (fun K hK => ?_) AllReadyZ.nil
      go_simp
      have HD2 : Hid (SVt W0 (y1.alloc (.cells #[.slice av1 ((rowsL (x.ld k) x.bk (x.sa k).id x.bkn).length) cv1] 55)) base (viewW x) (k) (k) (k) (k) sb 54 #[.int .i64 (x.sa k).id, .string (x.sa k).fr, .string (x.sa k).dst, .int .i64 (x.sa k).dep, .int .i64 (x.sa k).arr, .slice la (x.sa k).la.n lc, .slice ca (x.sa k).ca.n cc, .int .i64 (x.sa k).most] (.slice a3 x.bkn c3) (.slice ar k cr) (.slice al k cl) (.slice aq k cq) (.slice ap k cp) (.slice ar k cr) (.slice al k cl) (.slice aq k cq) (.slice ap k cp) E R L Q) := HD1.out.below (push (Below.refl _ _) _)
      have HRV2 : Hid ((y1.alloc (.cells #[.slice av1 ((rowsL (x.ld k) x.bk (x.sa k).id x.bkn).length) cv1] 55)).ownsRow y0.heap.size 116 5 (.slice av1 ((rowsL (x.ld k) x.bk (x.sa k).id x.bkn).length) cv1) ((rowsL (x.ld k) x.bk (x.sa k).id x.bkn).length) (rowList (nthR (rowsL (x.ld k) x.bk (x.sa k).id x.bkn)) (rowsL (x.ld k) x.bk (x.sa k).id x.bkn).length)) := own_below (push (Below.refl _ _) _) HRV.out
      have HNW : Hid (∀ j u, [(.slice av1 ((rowsL (x.ld k) x.bk (x.sa k).id x.bkn).length) cv1 : Value)][j]? = some u → (y1.alloc (.cells #[.slice av1 ((rowsL (x.ld k) x.bk (x.sa k).id x.bkn).length) cv1] 55)).cell? ((⟨y1.heap.size, 0, none⟩ : Addr).add j) = some u) := World.news_of_block (cs := #[.slice av1 ((rowsL (x.ld k) x.bk (x.sa k).id x.bkn).length) cv1]) (t := 55) (fr := (0, 0)) (heap_alloc_new y1 _)
      have hy2 : W0.heap.size ≤ (y1.alloc (.cells #[.slice av1 ((rowsL (x.ld k) x.bk (x.sa k).id x.bkn).length) cv1] 55)).heap.size := Nat.le_of_lt (blk_lt HD2.out.box)
      refine hK.out _ _ ⟨blk_cell HD2.out.box 1 _ rfl, (HX.out _ HD2.out.bel).1, (HX.out _ HD2.out.bel).2.1, (HX.out _ HD2.out.bel).2.2, blk_cell HD2.out.sbx 0 _ rfl⟩ (fun hS => ?_)
      clear hK K HD1
      simp only [List.set_cons_zero, List.set_cons_succ]
      generalize y1.alloc (.cells #[.slice av1 ((rowsL (x.ld k) x.bk (x.sa k).id x.bkn).length) cv1] 55) = y2 at HD2 HNW hy2 hS HRV2 ⊢
      refine wpAnyZ_ready (rs := [7]) (by kernel_rfl) (by simp) ?_
      refine AllReadyZ.consL rfl (fun K hK => ?_) AllReadyZ.nil
      refine step_append_lies _ (by rfl) (.tmp 26) (.tmp 31) 29 (by rfl) W0.heap.size 55 r0 (.slice none 0 0) 1 24 Tryz.underlying29 ri rz0 rz1 rz2 rfl (by decide) (.slice ar k cr) k ((List.range k).map R) (by rfl) HD2.out.vt.rows.row ⟨y1.heap.size, 0, none⟩ 1 1 [.slice av1 ((rowsL (x.ld k) x.bk (x.sa k).id x.bkn).length) cv1] (by rfl) (by rfl) HNW.out (by intro u hu; simp at hu; rw [hu]; rfl) (by decide) (by unfold maxLen; omega) (by omega) hy2 y2.heap.size rfl ?_
      intro gr cr2 y3 hoA hgA hatA hltA
      obtain ⟨gw1, gw2, gw3⟩ := HD2.out.grow HD2.out.vt.rows.row hgA (by decide) (by decide)
      have HD3 : Hid (SVt W0 y3 base (viewW x) (k + 1) (k) (k) (k) sb 54 #[.int .i64 (x.sa k).id, .string (x.sa k).fr, .string (x.sa k).dst, .int .i64 (x.sa k).dep, .int .i64 (x.sa k).arr, .slice la (x.sa k).la.n lc, .slice ca (x.sa k).ca.n cc, .int .i64 (x.sa k).most] (.slice a3 x.bkn c3) (.slice (some ⟨gr, 0, none⟩) (k + 1) cr2) (.slice al k cl) (.slice aq k cq) (.slice ap k cp) (.slice ar k cr) (.slice al k cl) (.slice aq k cq) (.slice ap k cp) E (atV R k (.slice av1 (rowsL (x.ld k) x.bk (x.sa k).id x.bkn).length cv1)) L Q) := ⟨HD2.out.vt.row (own_base HRV2.out (Nat.le_of_lt (blk_lt HD0.out.box))) (fun i hi b q1 q2 => by have h5 := HD0.out.vt.rowLt hi b q1; have h6 := (World.ownsRow.lt HRV2.out b q2).1; omega) hgA hoA, gw1, gw2, gw3, HD2.out.lt⟩
      refine hK.out _ _ ⟨blk_cell HD3.out.box 1 _ rfl, (HX.out _ HD3.out.bel).1, (HX.out _ HD3.out.bel).2.1, (HX.out _ HD3.out.bel).2.2, blk_cell HD3.out.sbx 0 _ rfl⟩ (fun hS => ?_)
      clear hK K HD2 HD0 HNW hoA hgA hatA hltA gw1 gw2 gw3 hy2 HRV HRV2
      simp only [Act.put, List.setIfInBounds_toArray, List.set_cons_zero, List.set_cons_succ]
      (refine wpAnyZ_takeL (i := 8) (v := ?_) rfl (by kernel_rfl) (fun _ _ _ h => h) (Or.inl ⟨by rfl, ?_⟩) (by assumption) ?_; rotate_left; (focus (intro w' hSw; (try dsimp only at hSw); go_simp; try with_reducible rfl)); simp only [Act.put, List.setIfInBounds_toArray, List.set_cons_zero, List.set_cons_succ])
      have zc := blk_cell HD3.out.box 1 _ rfl
      have zf := blk_free HD3.out.box 1
      have hst := HD3.out.sto 1 (.slice (some ⟨gr, 0, none⟩) (k + 1) cr2)
      have HS0 : Hid (SVt W0 (y3.setCell ⟨W0.heap.size, 1, none⟩ (.slice (some ⟨gr, 0, none⟩) (k + 1) cr2)) base (viewW x) (k + 1) (k) (k) (k) sb 54 #[.int .i64 (x.sa k).id, .string (x.sa k).fr, .string (x.sa k).dst, .int .i64 (x.sa k).dep, .int .i64 (x.sa k).arr, .slice la (x.sa k).la.n lc, .slice ca (x.sa k).ca.n cc, .int .i64 (x.sa k).most] (.slice a3 x.bkn c3) (.slice (some ⟨gr, 0, none⟩) (k + 1) cr2) (.slice al k cl) (.slice aq k cq) (.slice ap k cp) (.slice (some ⟨gr, 0, none⟩) (k + 1) cr2) (.slice al k cl) (.slice aq k cq) (.slice ap k cp) E (atV R k (.slice av1 (rowsL (x.ld k) x.bk (x.sa k).id x.bkn).length cv1)) L Q) := ⟨hst.1, hst.2.1, hst.2.2.1, hst.2.2.2, HD3.out.lt⟩
      clear hst
      refine wpAnyZ_ready (rs := [9]) (by kernel_rfl) (by simp) ?_
      refine AllReadyZ.lastL rfl (fun K hK => ?_)
      go_simp
      refine hK.out _ _ ?_
      clear hK K HD3 zc zf hS
      refine wpAnyZ_done (by kernel_rfl) ?_ _
      generalize y3.setCell ⟨W0.heap.size, 1, none⟩ (.slice (some ⟨gr, 0, none⟩) (k + 1) cr2) = Z0 at HS0 ⊢
      go_upto_region 9 with fail
      have HD0 : Hid (SVt W0 Z0.drew base (viewW x) (k + 1) (k) (k) (k) sb 54 #[.int .i64 (x.sa k).id, .string (x.sa k).fr, .string (x.sa k).dst, .int .i64 (x.sa k).dep, .int .i64 (x.sa k).arr, .slice la (x.sa k).la.n lc, .slice ca (x.sa k).ca.n cc, .int .i64 (x.sa k).most] (.slice a3 x.bkn c3) (.slice (some ⟨gr, 0, none⟩) (k + 1) cr2) (.slice al k cl) (.slice aq k cq) (.slice ap k cp) (.slice (some ⟨gr, 0, none⟩) (k + 1) cr2) (.slice al k cl) (.slice aq k cq) (.slice ap k cp) E (atV R k (.slice av1 (rowsL (x.ld k) x.bk (x.sa k).id x.bkn).length cv1)) L Q) := HS0.out.below (Below.refl _ _).drew
      clear HS0
      refine wp_region_z 14 15 (fun w' => w'.cell? ⟨W0.heap.size, 2, none⟩ = some (.slice al k cl) ∧ w'.cell? ⟨sb, 5, none⟩ = some (.slice la (x.sa k).la.n lc) ∧ w'.cell? ⟨xb, 1, none⟩ = some (.slice (some ⟨lb, lo, none⟩) x.ldn c2) ∧ w'.cell? ⟨lb, lo + k * 3, none⟩ = some (.slice ast (x.ld k).stn cst)) rfl (by kernel_rfl) ⟨blk_cell HD0.out.box 2 _ rfl, blk_cell HD0.out.sbx 5 _ rfl, (HX.out _ HD0.out.bel).2.1, (HLC.out _ HD0.out.bel).1⟩ (fun hS => ?_)
      simp only [List.replicate_succ, List.replicate_zero]
      generalize Z0.drew = y0 at HD0 hS ⊢
      (refine wpAnyZ_takeL (i := 0) (v := ?_) rfl (by kernel_rfl) (fun _ _ _ h => h) (Or.inl ⟨by rfl, ?_⟩) (by assumption) ?_; rotate_left; (focus (intro w' hSw; (try dsimp only at hSw); go_simp; try with_reducible rfl)); simp only [Act.put, List.setIfInBounds_toArray, List.set_cons_zero, List.set_cons_succ])
      (refine wpAnyZ_takeL (i := 1) (v := ?_) rfl (by kernel_rfl) (fun _ _ _ h => h) (Or.inl ⟨by rfl, ?_⟩) (by assumption) ?_; rotate_left; (focus (intro w' hSw; (try dsimp only at hSw); go_simp; try with_reducible rfl)); simp only [Act.put, List.setIfInBounds_toArray, List.set_cons_zero, List.set_cons_succ])
      (refine wpAnyZ_takeL (i := 2) (v := ?_) rfl (by kernel_rfl) (fun _ _ _ h => h) (Or.inl ⟨by rfl, ?_⟩) (by assumption) ?_; rotate_left; (focus (intro w' hSw; (try dsimp only at hSw); go_simp; try with_reducible rfl)); simp only [Act.put, List.setIfInBounds_toArray, List.set_cons_zero, List.set_cons_succ])
      (refine wpAnyZ_takeL (i := 3) (v := ?_) rfl (by kernel_rfl) (fun _ _ _ h => h) (Or.inl ⟨by rfl, ?_⟩) (by assumption) ?_; rotate_left; (focus (intro w' hSw; (try dsimp only at hSw); go_simp; try with_reducible rfl)); simp only [Act.put, List.setIfInBounds_toArray, List.set_cons_zero, List.set_cons_succ])
      (refine wpAnyZ_takeL (i := 4) (v := ?_) rfl (by kernel_rfl) (fun _ _ _ h => h) (Or.inl ⟨by rfl, ?_⟩) (by assumption) ?_; rotate_left; (focus (intro w' hSw; (try dsimp only at hSw); go_simp; try with_reducible rfl)); simp only [Act.put, List.setIfInBounds_toArray, List.set_cons_zero, List.set_cons_succ])
      (refine wpAnyZ_takeL (i := 5) (v := ?_) rfl (by kernel_rfl) (fun _ _ _ h => h) (Or.inl ⟨by rfl, ?_⟩) (by assumption) ?_; rotate_left; (focus (intro w' hSw; (try dsimp only at hSw); go_simp; try with_reducible rfl)); simp only [Act.put, List.setIfInBounds_toArray, List.set_cons_zero, List.set_cons_succ])
      (refine wpAnyZ_takeL (i := 6) (v := ?_) rfl (by kernel_rfl) (fun _ _ _ h => h) (Or.inl ⟨by rfl, ?_⟩) (by assumption) ?_; rotate_left; (focus (intro w' hSw; (try dsimp only at hSw); go_simp; try with_reducible rfl)); simp only [Act.put, List.setIfInBounds_toArray, List.set_cons_zero, List.set_cons_succ])
      (refine wpAnyZ_takeL (i := 7) (v := ?_) rfl (by kernel_rfl) (fun _ _ _ h => h) (Or.inl ⟨by rfl, ?_⟩) (by assumption) ?_; rotate_left; (focus (intro w' hSw; (try dsimp only at hSw); go_simp; try with_reducible rfl)); simp only [Act.put, List.setIfInBounds_toArray, List.set_cons_zero, List.set_cons_succ])
      (refine wpAnyZ_takeL (i := 8) (v := ?_) rfl (by kernel_rfl) (fun _ _ _ h => h) (Or.inl ⟨by rfl, ?_⟩) (by assumption) ?_; rotate_left; (focus (intro w' hSw; (try dsimp only at hSw); go_simp; try with_reducible rfl)); simp only [Act.put, List.setIfInBounds_toArray, List.set_cons_zero, List.set_cons_succ])
      (refine wpAnyZ_takeL (i := 9) (v := ?_) rfl (by kernel_rfl) (fun _ _ _ h => h) (Or.inl ⟨by rfl, ?_⟩) (by assumption) ?_; rotate_left; (focus (intro w' hSw; (try dsimp only at hSw); go_simp; try with_reducible rfl)); simp only [Act.put, List.setIfInBounds_toArray, List.set_cons_zero, List.set_cons_succ])
      refine wpAnyZ_ready (rs := [10]) (by kernel_rfl) (by simp) ?_
      refine AllReadyZ.consL rfl (fun K hK => ?_) AllReadyZ.nil
      go_simp
      go_at_call 19
      refine Calls.mono (l4Free_any la ast (x.sa k).la.n lc (x.ld k).stn cst (x.sa k).la (x.ld k).st y0 rfl HP.out.1.1 HP.out.1.2.1 (fun j hj => (HP.out.1.2.2.1 j hj).2.2.1) (HRD.out.1.below HD0.out.bel) (HRD.out.2.2.1.below HD0.out.bel)) ?_
      rintro e y1 ⟨⟨v, rfl, ho⟩, hb⟩
      dsimp only
      obtain ⟨av2, cv2, rfl, _⟩ := own_form ho
      have HD1 : Hid (SVt W0 y1 base (viewW x) (k + 1) (k) (k) (k) sb 54 #[.int .i64 (x.sa k).id, .string (x.sa k).fr, .string (x.sa k).dst, .int .i64 (x.sa k).dep, .int .i64 (x.sa k).arr, .slice la (x.sa k).la.n lc, .slice ca (x.sa k).ca.n cc, .int .i64 (x.sa k).most] (.slice a3 x.bkn c3) (.slice (some ⟨gr, 0, none⟩) (k + 1) cr2) (.slice al k cl) (.slice aq k cq) (.slice ap k cp) (.slice (some ⟨gr, 0, none⟩) (k + 1) cr2) (.slice al k cl) (.slice aq k cq) (.slice ap k cp) E (atV R k (.slice av1 (rowsL (x.ld k) x.bk (x.sa k).id x.bkn).length cv1)) L Q) := HD0.out.below hb
      have HRV : Hid (y1.ownsRow y0.heap.size 3 1 (.slice av2 ((x.sa k).la.n) cv2) ((x.sa k).la.n) (intList (left (x.sa k).la (x.ld k).st (x.ld k).stn) (x.sa k).la.n)) := ho
      refine hK.out _ _ ⟨blk_cell HD1.out.box 2 _ rfl, blk_cell HD1.out.sbx 5 _ rfl, (HX.out _ HD1.out.bel).2.1, (HLC.out _ HD1.out.bel).1⟩ (fun hS => ?_)
      clear hK K hb ho
      simp only [List.set_cons_zero, List.set_cons_succ]
      refine wpAnyZ_ready (rs := [11]) (by kernel_rfl) (by simp) ?_
      refine AllReadyZ.consL rfl (fun K hK => ?_) AllReadyZ.nil
      go_simp
      have HD2 : Hid (SVt W0 (y1.alloc (.cells #[.slice av2 ((x.sa k).la.n) cv2] 31)) base (viewW x) (k + 1) (k) (k) (k) sb 54 #[.int .i64 (x.sa k).id, .string (x.sa k).fr, .string (x.sa k).dst, .int .i64 (x.sa k).dep, .int .i64 (x.sa k).arr, .slice la (x.sa k).la.n lc, .slice ca (x.sa k).ca.n cc, .int .i64 (x.sa k).most] (.slice a3 x.bkn c3) (.slice (some ⟨gr, 0, none⟩) (k + 1) cr2) (.slice al k cl) (.slice aq k cq) (.slice ap k cp) (.slice (some ⟨gr, 0, none⟩) (k + 1) cr2) (.slice al k cl) (.slice aq k cq) (.slice ap k cp) E (atV R k (.slice av1 (rowsL (x.ld k) x.bk (x.sa k).id x.bkn).length cv1)) L Q) := HD1.out.below (push (Below.refl _ _) _)
      have HRV2 : Hid ((y1.alloc (.cells #[.slice av2 ((x.sa k).la.n) cv2] 31)).ownsRow y0.heap.size 3 1 (.slice av2 ((x.sa k).la.n) cv2) ((x.sa k).la.n) (intList (left (x.sa k).la (x.ld k).st (x.ld k).stn) (x.sa k).la.n)) := own_below (push (Below.refl _ _) _) HRV.out
      have HNW : Hid (∀ j u, [(.slice av2 ((x.sa k).la.n) cv2 : Value)][j]? = some u → (y1.alloc (.cells #[.slice av2 ((x.sa k).la.n) cv2] 31)).cell? ((⟨y1.heap.size, 0, none⟩ : Addr).add j) = some u) := World.news_of_block (cs := #[.slice av2 ((x.sa k).la.n) cv2]) (t := 31) (fr := (0, 0)) (heap_alloc_new y1 _)
      have hy2 : W0.heap.size ≤ (y1.alloc (.cells #[.slice av2 ((x.sa k).la.n) cv2] 31)).heap.size := Nat.le_of_lt (blk_lt HD2.out.box)
      refine hK.out _ _ ⟨blk_cell HD2.out.box 2 _ rfl, blk_cell HD2.out.sbx 5 _ rfl, (HX.out _ HD2.out.bel).2.1, (HLC.out _ HD2.out.bel).1⟩ (fun hS => ?_)
      clear hK K HD1
      simp only [List.set_cons_zero, List.set_cons_succ]
      generalize y1.alloc (.cells #[.slice av2 ((x.sa k).la.n) cv2] 31) = y2 at HD2 HNW hy2 hS HRV2 ⊢
      refine wpAnyZ_ready (rs := [12]) (by kernel_rfl) (by simp) ?_
      refine AllReadyZ.consL rfl (fun K hK => ?_) AllReadyZ.nil
      refine step_append_lies _ (by rfl) (.tmp 35) (.tmp 45) 30 (by rfl) W0.heap.size 31 i0 (.slice none 0 0) 1 24 Tryz.underlying30 ii iz0 iz1 iz2 rfl (by decide) (.slice al k cl) k ((List.range k).map L) (by rfl) HD2.out.vt.lan.row ⟨y1.heap.size, 0, none⟩ 1 1 [.slice av2 ((x.sa k).la.n) cv2] (by rfl) (by rfl) HNW.out (by intro u hu; simp at hu; rw [hu]; rfl) (by decide) (by unfold maxLen; omega) (by omega) hy2 y2.heap.size rfl ?_
      intro gl cl2 y3 hoA hgA hatA hltA
      obtain ⟨gw1, gw2, gw3⟩ := HD2.out.grow HD2.out.vt.lan.row hgA (by decide) (by decide)
      have HD3 : Hid (SVt W0 y3 base (viewW x) (k + 1) (k + 1) (k) (k) sb 54 #[.int .i64 (x.sa k).id, .string (x.sa k).fr, .string (x.sa k).dst, .int .i64 (x.sa k).dep, .int .i64 (x.sa k).arr, .slice la (x.sa k).la.n lc, .slice ca (x.sa k).ca.n cc, .int .i64 (x.sa k).most] (.slice a3 x.bkn c3) (.slice (some ⟨gr, 0, none⟩) (k + 1) cr2) (.slice (some ⟨gl, 0, none⟩) (k + 1) cl2) (.slice aq k cq) (.slice ap k cp) (.slice (some ⟨gr, 0, none⟩) (k + 1) cr2) (.slice al k cl) (.slice aq k cq) (.slice ap k cp) E (atV R k (.slice av1 (rowsL (x.ld k) x.bk (x.sa k).id x.bkn).length cv1)) (atV L k (.slice av2 (x.sa k).la.n cv2)) Q) := ⟨HD2.out.vt.lane (own_base HRV2.out (Nat.le_of_lt (blk_lt HD0.out.box))) (fun i hi b q1 q2 => by have h5 := HD0.out.vt.lanLt hi b q1; have h6 := (World.ownsRow.lt HRV2.out b q2).1; omega) (fun i hi b q1 q2 => by have h5 := HD0.out.vt.berLt hi b q1; have h6 := (World.ownsRow.lt HRV2.out b q2).1; omega) (fun b q1 q2 => by have h5 := HD0.out.vt.peoLt b q2; have h6 := (World.ownsRow.lt HRV2.out b q1).1; omega) hgA hoA (fun b q => by simp only [Value.ownBlock, Option.some.injEq] at q; subst q; rcases hatA with h | h; exact .inl h; exact .inr (by omega)), gw1, gw2, gw3, HD2.out.lt⟩
      refine hK.out _ _ ⟨blk_cell HD3.out.box 2 _ rfl, blk_cell HD3.out.sbx 5 _ rfl, (HX.out _ HD3.out.bel).2.1, (HLC.out _ HD3.out.bel).1⟩ (fun hS => ?_)
      clear hK K HD2 HD0 HNW hoA hgA hatA hltA gw1 gw2 gw3 hy2 HRV HRV2
      simp only [Act.put, List.setIfInBounds_toArray, List.set_cons_zero, List.set_cons_succ]
      (refine wpAnyZ_takeL (i := 13) (v := ?_) rfl (by kernel_rfl) (fun _ _ _ h => h) (Or.inl ⟨by rfl, ?_⟩) (by assumption) ?_; rotate_left; (focus (intro w' hSw; (try dsimp only at hSw); go_simp; try with_reducible rfl)); simp only [Act.put, List.setIfInBounds_toArray, List.set_cons_zero, List.set_cons_succ])
      have zc := blk_cell HD3.out.box 2 _ rfl
      have zf := blk_free HD3.out.box 2
      have hst := HD3.out.sto 2 (.slice (some ⟨gl, 0, none⟩) (k + 1) cl2)
      have HS0 : Hid (SVt W0 (y3.setCell ⟨W0.heap.size, 2, none⟩ (.slice (some ⟨gl, 0, none⟩) (k + 1) cl2)) base (viewW x) (k + 1) (k + 1) (k) (k) sb 54 #[.int .i64 (x.sa k).id, .string (x.sa k).fr, .string (x.sa k).dst, .int .i64 (x.sa k).dep, .int .i64 (x.sa k).arr, .slice la (x.sa k).la.n lc, .slice ca (x.sa k).ca.n cc, .int .i64 (x.sa k).most] (.slice a3 x.bkn c3) (.slice (some ⟨gr, 0, none⟩) (k + 1) cr2) (.slice (some ⟨gl, 0, none⟩) (k + 1) cl2) (.slice aq k cq) (.slice ap k cp) (.slice (some ⟨gr, 0, none⟩) (k + 1) cr2) (.slice (some ⟨gl, 0, none⟩) (k + 1) cl2) (.slice aq k cq) (.slice ap k cp) E (atV R k (.slice av1 (rowsL (x.ld k) x.bk (x.sa k).id x.bkn).length cv1)) (atV L k (.slice av2 (x.sa k).la.n cv2)) Q) := ⟨hst.1, hst.2.1, hst.2.2.1, hst.2.2.2, HD3.out.lt⟩
      clear hst
      refine wpAnyZ_ready (rs := [14]) (by kernel_rfl) (by simp) ?_
      refine AllReadyZ.lastL rfl (fun K hK => ?_)
      go_simp
      refine hK.out _ _ ?_
      clear hK K HD3 zc zf hS
      refine wpAnyZ_done (by kernel_rfl) ?_ _
      generalize y3.setCell ⟨W0.heap.size, 2, none⟩ (.slice (some ⟨gl, 0, none⟩) (k + 1) cl2) = Z1 at HS0 ⊢
      go_upto_region 10 with fail
      have HD0 : Hid (SVt W0 Z1.drew base (viewW x) (k + 1) (k + 1) (k) (k) sb 54 #[.int .i64 (x.sa k).id, .string (x.sa k).fr, .string (x.sa k).dst, .int .i64 (x.sa k).dep, .int .i64 (x.sa k).arr, .slice la (x.sa k).la.n lc, .slice ca (x.sa k).ca.n cc, .int .i64 (x.sa k).most] (.slice a3 x.bkn c3) (.slice (some ⟨gr, 0, none⟩) (k + 1) cr2) (.slice (some ⟨gl, 0, none⟩) (k + 1) cl2) (.slice aq k cq) (.slice ap k cp) (.slice (some ⟨gr, 0, none⟩) (k + 1) cr2) (.slice (some ⟨gl, 0, none⟩) (k + 1) cl2) (.slice aq k cq) (.slice ap k cp) E (atV R k (.slice av1 (rowsL (x.ld k) x.bk (x.sa k).id x.bkn).length cv1)) (atV L k (.slice av2 (x.sa k).la.n cv2)) Q) := HS0.out.below (Below.refl _ _).drew
      clear HS0
      refine wp_region_z 14 15 (fun w' => w'.cell? ⟨W0.heap.size, 3, none⟩ = some (.slice aq k cq) ∧ w'.cell? ⟨sb, 6, none⟩ = some (.slice ca (x.sa k).ca.n cc) ∧ w'.cell? ⟨xb, 1, none⟩ = some (.slice (some ⟨lb, lo, none⟩) x.ldn c2) ∧ w'.cell? ⟨lb, lo + k * 3 + 1, none⟩ = some (.slice aro (x.ld k).ron cro)) rfl (by kernel_rfl) ⟨blk_cell HD0.out.box 3 _ rfl, blk_cell HD0.out.sbx 6 _ rfl, (HX.out _ HD0.out.bel).2.1, (HLC.out _ HD0.out.bel).2.1⟩ (fun hS => ?_)
      simp only [List.replicate_succ, List.replicate_zero]
      generalize Z1.drew = y0 at HD0 hS ⊢
      (refine wpAnyZ_takeL (i := 0) (v := ?_) rfl (by kernel_rfl) (fun _ _ _ h => h) (Or.inl ⟨by rfl, ?_⟩) (by assumption) ?_; rotate_left; (focus (intro w' hSw; (try dsimp only at hSw); go_simp; try with_reducible rfl)); simp only [Act.put, List.setIfInBounds_toArray, List.set_cons_zero, List.set_cons_succ])
      (refine wpAnyZ_takeL (i := 1) (v := ?_) rfl (by kernel_rfl) (fun _ _ _ h => h) (Or.inl ⟨by rfl, ?_⟩) (by assumption) ?_; rotate_left; (focus (intro w' hSw; (try dsimp only at hSw); go_simp; try with_reducible rfl)); simp only [Act.put, List.setIfInBounds_toArray, List.set_cons_zero, List.set_cons_succ])
      (refine wpAnyZ_takeL (i := 2) (v := ?_) rfl (by kernel_rfl) (fun _ _ _ h => h) (Or.inl ⟨by rfl, ?_⟩) (by assumption) ?_; rotate_left; (focus (intro w' hSw; (try dsimp only at hSw); go_simp; try with_reducible rfl)); simp only [Act.put, List.setIfInBounds_toArray, List.set_cons_zero, List.set_cons_succ])
      (refine wpAnyZ_takeL (i := 3) (v := ?_) rfl (by kernel_rfl) (fun _ _ _ h => h) (Or.inl ⟨by rfl, ?_⟩) (by assumption) ?_; rotate_left; (focus (intro w' hSw; (try dsimp only at hSw); go_simp; try with_reducible rfl)); simp only [Act.put, List.setIfInBounds_toArray, List.set_cons_zero, List.set_cons_succ])
      (refine wpAnyZ_takeL (i := 4) (v := ?_) rfl (by kernel_rfl) (fun _ _ _ h => h) (Or.inl ⟨by rfl, ?_⟩) (by assumption) ?_; rotate_left; (focus (intro w' hSw; (try dsimp only at hSw); go_simp; try with_reducible rfl)); simp only [Act.put, List.setIfInBounds_toArray, List.set_cons_zero, List.set_cons_succ])
      (refine wpAnyZ_takeL (i := 5) (v := ?_) rfl (by kernel_rfl) (fun _ _ _ h => h) (Or.inl ⟨by rfl, ?_⟩) (by assumption) ?_; rotate_left; (focus (intro w' hSw; (try dsimp only at hSw); go_simp; try with_reducible rfl)); simp only [Act.put, List.setIfInBounds_toArray, List.set_cons_zero, List.set_cons_succ])
      (refine wpAnyZ_takeL (i := 6) (v := ?_) rfl (by kernel_rfl) (fun _ _ _ h => h) (Or.inl ⟨by rfl, ?_⟩) (by assumption) ?_; rotate_left; (focus (intro w' hSw; (try dsimp only at hSw); go_simp; try with_reducible rfl)); simp only [Act.put, List.setIfInBounds_toArray, List.set_cons_zero, List.set_cons_succ])
      (refine wpAnyZ_takeL (i := 7) (v := ?_) rfl (by kernel_rfl) (fun _ _ _ h => h) (Or.inl ⟨by rfl, ?_⟩) (by assumption) ?_; rotate_left; (focus (intro w' hSw; (try dsimp only at hSw); go_simp; try with_reducible rfl)); simp only [Act.put, List.setIfInBounds_toArray, List.set_cons_zero, List.set_cons_succ])
      (refine wpAnyZ_takeL (i := 8) (v := ?_) rfl (by kernel_rfl) (fun _ _ _ h => h) (Or.inl ⟨by rfl, ?_⟩) (by assumption) ?_; rotate_left; (focus (intro w' hSw; (try dsimp only at hSw); go_simp; try with_reducible rfl)); simp only [Act.put, List.setIfInBounds_toArray, List.set_cons_zero, List.set_cons_succ])
      (refine wpAnyZ_takeL (i := 9) (v := ?_) rfl (by kernel_rfl) (fun _ _ _ h => h) (Or.inl ⟨by rfl, ?_⟩) (by assumption) ?_; rotate_left; (focus (intro w' hSw; (try dsimp only at hSw); go_simp; try with_reducible rfl)); simp only [Act.put, List.setIfInBounds_toArray, List.set_cons_zero, List.set_cons_succ])
      refine wpAnyZ_ready (rs := [10]) (by kernel_rfl) (by simp) ?_
      refine AllReadyZ.consL rfl (fun K hK => ?_) AllReadyZ.nil
      go_simp
      go_at_call 20
      refine Calls.mono (l5Free_any ca aro (x.sa k).ca.n cc (x.ld k).ron cro (x.sa k).ca (x.ld k).ro y0 rfl HP.out.2.1.1 HP.out.2.1.2.1 HP.out.2.1.manys (HRD.out.2.1.below HD0.out.bel) (HRD.out.2.2.2.1.below HD0.out.bel)) ?_
      rintro e y1 ⟨⟨v, rfl, ho⟩, hb⟩
      dsimp only
      obtain ⟨av3, cv3, rfl, _⟩ := own_form ho
      have HD1 : Hid (SVt W0 y1 base (viewW x) (k + 1) (k + 1) (k) (k) sb 54 #[.int .i64 (x.sa k).id, .string (x.sa k).fr, .string (x.sa k).dst, .int .i64 (x.sa k).dep, .int .i64 (x.sa k).arr, .slice la (x.sa k).la.n lc, .slice ca (x.sa k).ca.n cc, .int .i64 (x.sa k).most] (.slice a3 x.bkn c3) (.slice (some ⟨gr, 0, none⟩) (k + 1) cr2) (.slice (some ⟨gl, 0, none⟩) (k + 1) cl2) (.slice aq k cq) (.slice ap k cp) (.slice (some ⟨gr, 0, none⟩) (k + 1) cr2) (.slice (some ⟨gl, 0, none⟩) (k + 1) cl2) (.slice aq k cq) (.slice ap k cp) E (atV R k (.slice av1 (rowsL (x.ld k) x.bk (x.sa k).id x.bkn).length cv1)) (atV L k (.slice av2 (x.sa k).la.n cv2)) Q) := HD0.out.below hb
      have HRV : Hid (y1.ownsRow y0.heap.size 3 1 (.slice av3 ((x.sa k).ca.n) cv3) ((x.sa k).ca.n) (intList (leftR (x.sa k).ca (x.ld k).ro (x.ld k).ron) (x.sa k).ca.n)) := ho
      refine hK.out _ _ ⟨blk_cell HD1.out.box 3 _ rfl, blk_cell HD1.out.sbx 6 _ rfl, (HX.out _ HD1.out.bel).2.1, (HLC.out _ HD1.out.bel).2.1⟩ (fun hS => ?_)
      clear hK K hb ho
      simp only [List.set_cons_zero, List.set_cons_succ]
      refine wpAnyZ_ready (rs := [11]) (by kernel_rfl) (by simp) ?_
      refine AllReadyZ.consL rfl (fun K hK => ?_) AllReadyZ.nil
      go_simp
      have HD2 : Hid (SVt W0 (y1.alloc (.cells #[.slice av3 ((x.sa k).ca.n) cv3] 31)) base (viewW x) (k + 1) (k + 1) (k) (k) sb 54 #[.int .i64 (x.sa k).id, .string (x.sa k).fr, .string (x.sa k).dst, .int .i64 (x.sa k).dep, .int .i64 (x.sa k).arr, .slice la (x.sa k).la.n lc, .slice ca (x.sa k).ca.n cc, .int .i64 (x.sa k).most] (.slice a3 x.bkn c3) (.slice (some ⟨gr, 0, none⟩) (k + 1) cr2) (.slice (some ⟨gl, 0, none⟩) (k + 1) cl2) (.slice aq k cq) (.slice ap k cp) (.slice (some ⟨gr, 0, none⟩) (k + 1) cr2) (.slice (some ⟨gl, 0, none⟩) (k + 1) cl2) (.slice aq k cq) (.slice ap k cp) E (atV R k (.slice av1 (rowsL (x.ld k) x.bk (x.sa k).id x.bkn).length cv1)) (atV L k (.slice av2 (x.sa k).la.n cv2)) Q) := HD1.out.below (push (Below.refl _ _) _)
      have HRV2 : Hid ((y1.alloc (.cells #[.slice av3 ((x.sa k).ca.n) cv3] 31)).ownsRow y0.heap.size 3 1 (.slice av3 ((x.sa k).ca.n) cv3) ((x.sa k).ca.n) (intList (leftR (x.sa k).ca (x.ld k).ro (x.ld k).ron) (x.sa k).ca.n)) := own_below (push (Below.refl _ _) _) HRV.out
      have HNW : Hid (∀ j u, [(.slice av3 ((x.sa k).ca.n) cv3 : Value)][j]? = some u → (y1.alloc (.cells #[.slice av3 ((x.sa k).ca.n) cv3] 31)).cell? ((⟨y1.heap.size, 0, none⟩ : Addr).add j) = some u) := World.news_of_block (cs := #[.slice av3 ((x.sa k).ca.n) cv3]) (t := 31) (fr := (0, 0)) (heap_alloc_new y1 _)
      have hy2 : W0.heap.size ≤ (y1.alloc (.cells #[.slice av3 ((x.sa k).ca.n) cv3] 31)).heap.size := Nat.le_of_lt (blk_lt HD2.out.box)
      refine hK.out _ _ ⟨blk_cell HD2.out.box 3 _ rfl, blk_cell HD2.out.sbx 6 _ rfl, (HX.out _ HD2.out.bel).2.1, (HLC.out _ HD2.out.bel).2.1⟩ (fun hS => ?_)
      clear hK K HD1
      simp only [List.set_cons_zero, List.set_cons_succ]
      generalize y1.alloc (.cells #[.slice av3 ((x.sa k).ca.n) cv3] 31) = y2 at HD2 HNW hy2 hS HRV2 ⊢
      refine wpAnyZ_ready (rs := [12]) (by kernel_rfl) (by simp) ?_
      refine AllReadyZ.consL rfl (fun K hK => ?_) AllReadyZ.nil
      refine step_append_lies _ (by rfl) (.tmp 49) (.tmp 59) 30 (by rfl) W0.heap.size 31 i0 (.slice none 0 0) 1 24 Tryz.underlying30 ii iz0 iz1 iz2 rfl (by decide) (.slice aq k cq) k ((List.range k).map Q) (by rfl) HD2.out.vt.ber.row ⟨y1.heap.size, 0, none⟩ 1 1 [.slice av3 ((x.sa k).ca.n) cv3] (by rfl) (by rfl) HNW.out (by intro u hu; simp at hu; rw [hu]; rfl) (by decide) (by unfold maxLen; omega) (by omega) hy2 y2.heap.size rfl ?_
      intro gq cq2 y3 hoA hgA hatA hltA
      obtain ⟨gw1, gw2, gw3⟩ := HD2.out.grow HD2.out.vt.ber.row hgA (by decide) (by decide)
      have HD3 : Hid (SVt W0 y3 base (viewW x) (k + 1) (k + 1) (k + 1) (k) sb 54 #[.int .i64 (x.sa k).id, .string (x.sa k).fr, .string (x.sa k).dst, .int .i64 (x.sa k).dep, .int .i64 (x.sa k).arr, .slice la (x.sa k).la.n lc, .slice ca (x.sa k).ca.n cc, .int .i64 (x.sa k).most] (.slice a3 x.bkn c3) (.slice (some ⟨gr, 0, none⟩) (k + 1) cr2) (.slice (some ⟨gl, 0, none⟩) (k + 1) cl2) (.slice (some ⟨gq, 0, none⟩) (k + 1) cq2) (.slice ap k cp) (.slice (some ⟨gr, 0, none⟩) (k + 1) cr2) (.slice (some ⟨gl, 0, none⟩) (k + 1) cl2) (.slice aq k cq) (.slice ap k cp) E (atV R k (.slice av1 (rowsL (x.ld k) x.bk (x.sa k).id x.bkn).length cv1)) (atV L k (.slice av2 (x.sa k).la.n cv2)) (atV Q k (.slice av3 (x.sa k).ca.n cv3))) := ⟨HD2.out.vt.berth (own_base HRV2.out (Nat.le_of_lt (blk_lt HD0.out.box))) (fun i hi b q1 q2 => by have h5 := HD0.out.vt.berLt hi b q1; have h6 := (World.ownsRow.lt HRV2.out b q2).1; omega) (fun i hi b q1 q2 => by have h5 := HD0.out.vt.lanLt hi b q1; have h6 := (World.ownsRow.lt HRV2.out b q2).1; omega) (fun b q1 q2 => by have h5 := HD0.out.vt.peoLt b q2; have h6 := (World.ownsRow.lt HRV2.out b q1).1; omega) hgA hoA (fun b q => by simp only [Value.ownBlock, Option.some.injEq] at q; subst q; rcases hatA with h | h; exact .inl h; exact .inr (by omega)), gw1, gw2, gw3, HD2.out.lt⟩
      refine hK.out _ _ ⟨blk_cell HD3.out.box 3 _ rfl, blk_cell HD3.out.sbx 6 _ rfl, (HX.out _ HD3.out.bel).2.1, (HLC.out _ HD3.out.bel).2.1⟩ (fun hS => ?_)
      clear hK K HD2 HD0 HNW hoA hgA hatA hltA gw1 gw2 gw3 hy2 HRV HRV2
      simp only [Act.put, List.setIfInBounds_toArray, List.set_cons_zero, List.set_cons_succ]
      (refine wpAnyZ_takeL (i := 13) (v := ?_) rfl (by kernel_rfl) (fun _ _ _ h => h) (Or.inl ⟨by rfl, ?_⟩) (by assumption) ?_; rotate_left; (focus (intro w' hSw; (try dsimp only at hSw); go_simp; try with_reducible rfl)); simp only [Act.put, List.setIfInBounds_toArray, List.set_cons_zero, List.set_cons_succ])
      have zc := blk_cell HD3.out.box 3 _ rfl
      have zf := blk_free HD3.out.box 3
      have hst := HD3.out.sto 3 (.slice (some ⟨gq, 0, none⟩) (k + 1) cq2)
      have HS0 : Hid (SVt W0 (y3.setCell ⟨W0.heap.size, 3, none⟩ (.slice (some ⟨gq, 0, none⟩) (k + 1) cq2)) base (viewW x) (k + 1) (k + 1) (k + 1) (k) sb 54 #[.int .i64 (x.sa k).id, .string (x.sa k).fr, .string (x.sa k).dst, .int .i64 (x.sa k).dep, .int .i64 (x.sa k).arr, .slice la (x.sa k).la.n lc, .slice ca (x.sa k).ca.n cc, .int .i64 (x.sa k).most] (.slice a3 x.bkn c3) (.slice (some ⟨gr, 0, none⟩) (k + 1) cr2) (.slice (some ⟨gl, 0, none⟩) (k + 1) cl2) (.slice (some ⟨gq, 0, none⟩) (k + 1) cq2) (.slice ap k cp) (.slice (some ⟨gr, 0, none⟩) (k + 1) cr2) (.slice (some ⟨gl, 0, none⟩) (k + 1) cl2) (.slice (some ⟨gq, 0, none⟩) (k + 1) cq2) (.slice ap k cp) E (atV R k (.slice av1 (rowsL (x.ld k) x.bk (x.sa k).id x.bkn).length cv1)) (atV L k (.slice av2 (x.sa k).la.n cv2)) (atV Q k (.slice av3 (x.sa k).ca.n cv3))) := ⟨hst.1, hst.2.1, hst.2.2.1, hst.2.2.2, HD3.out.lt⟩
      clear hst
      refine wpAnyZ_ready (rs := [14]) (by kernel_rfl) (by simp) ?_
      refine AllReadyZ.lastL rfl (fun K hK => ?_)
      go_simp
      refine hK.out _ _ ?_
      clear hK K HD3 zc zf hS
      refine wpAnyZ_done (by kernel_rfl) ?_ _
      generalize y3.setCell ⟨W0.heap.size, 3, none⟩ (.slice (some ⟨gq, 0, none⟩) (k + 1) cq2) = Z2 at HS0 ⊢
      go_upto_region 11 with fail
      have hm0 : In (x.sa k).most 0 500 := HP.out.2.2.1
      have hq0 := sits_bounds (x.ld k).se (x.ld k).sen (fun j hj => (HP.out.2.2.2.2.1 j hj).2.2)
      have hq1 : sits (x.ld k).se (x.ld k).sen ≤ (x.sa k).most := HP.out.2.2.2.2.2
      have hwq : IntKind.wrap .i64 ((x.sa k).most - sits (x.ld k).se (x.ld k).sen) = (x.sa k).most - sits (x.ld k).se (x.ld k).sen := by unfold In at hm0; rw [IntKind.wrap_i64]; omega
      have HD0 : Hid (SVt W0 Z2.drew base (viewW x) (k + 1) (k + 1) (k + 1) (k) sb 54 #[.int .i64 (x.sa k).id, .string (x.sa k).fr, .string (x.sa k).dst, .int .i64 (x.sa k).dep, .int .i64 (x.sa k).arr, .slice la (x.sa k).la.n lc, .slice ca (x.sa k).ca.n cc, .int .i64 (x.sa k).most] (.slice a3 x.bkn c3) (.slice (some ⟨gr, 0, none⟩) (k + 1) cr2) (.slice (some ⟨gl, 0, none⟩) (k + 1) cl2) (.slice (some ⟨gq, 0, none⟩) (k + 1) cq2) (.slice ap k cp) (.slice (some ⟨gr, 0, none⟩) (k + 1) cr2) (.slice (some ⟨gl, 0, none⟩) (k + 1) cl2) (.slice (some ⟨gq, 0, none⟩) (k + 1) cq2) (.slice ap k cp) E (atV R k (.slice av1 (rowsL (x.ld k) x.bk (x.sa k).id x.bkn).length cv1)) (atV L k (.slice av2 (x.sa k).la.n cv2)) (atV Q k (.slice av3 (x.sa k).ca.n cv3))) := HS0.out.below (Below.refl _ _).drew
      clear HS0
      refine wp_region_z 15 16 (fun w' => w'.cell? ⟨W0.heap.size, 4, none⟩ = some (.slice ap k cp) ∧ w'.cell? ⟨sb, 7, none⟩ = some (.int .i64 (x.sa k).most) ∧ w'.cell? ⟨xb, 1, none⟩ = some (.slice (some ⟨lb, lo, none⟩) x.ldn c2) ∧ w'.cell? ⟨lb, lo + k * 3 + 2, none⟩ = some (.slice ase (x.ld k).sen cse)) rfl (by kernel_rfl) ⟨blk_cell HD0.out.box 4 _ rfl, blk_cell HD0.out.sbx 7 _ rfl, (HX.out _ HD0.out.bel).2.1, (HLC.out _ HD0.out.bel).2.2⟩ (fun hS => ?_)
      simp only [List.replicate_succ, List.replicate_zero]
      generalize Z2.drew = y0 at HD0 hS ⊢
      (refine wpAnyZ_takeL (i := 0) (v := ?_) rfl (by kernel_rfl) (fun _ _ _ h => h) (Or.inl ⟨by rfl, ?_⟩) (by assumption) ?_; rotate_left; (focus (intro w' hSw; (try dsimp only at hSw); go_simp; try with_reducible rfl)); simp only [Act.put, List.setIfInBounds_toArray, List.set_cons_zero, List.set_cons_succ])
      (refine wpAnyZ_takeL (i := 1) (v := ?_) rfl (by kernel_rfl) (fun _ _ _ h => h) (Or.inl ⟨by rfl, ?_⟩) (by assumption) ?_; rotate_left; (focus (intro w' hSw; (try dsimp only at hSw); go_simp; try with_reducible rfl)); simp only [Act.put, List.setIfInBounds_toArray, List.set_cons_zero, List.set_cons_succ])
      (refine wpAnyZ_takeL (i := 2) (v := ?_) rfl (by kernel_rfl) (fun _ _ _ h => h) (Or.inl ⟨by rfl, ?_⟩) (by assumption) ?_; rotate_left; (focus (intro w' hSw; (try dsimp only at hSw); go_simp; try with_reducible rfl)); simp only [Act.put, List.setIfInBounds_toArray, List.set_cons_zero, List.set_cons_succ])
      (refine wpAnyZ_takeL (i := 3) (v := ?_) rfl (by kernel_rfl) (fun _ _ _ h => h) (Or.inl ⟨by rfl, ?_⟩) (by assumption) ?_; rotate_left; (focus (intro w' hSw; (try dsimp only at hSw); go_simp; try with_reducible rfl)); simp only [Act.put, List.setIfInBounds_toArray, List.set_cons_zero, List.set_cons_succ])
      (refine wpAnyZ_takeL (i := 4) (v := ?_) rfl (by kernel_rfl) (fun _ _ _ h => h) (Or.inl ⟨by rfl, ?_⟩) (by assumption) ?_; rotate_left; (focus (intro w' hSw; (try dsimp only at hSw); go_simp; try with_reducible rfl)); simp only [Act.put, List.setIfInBounds_toArray, List.set_cons_zero, List.set_cons_succ])
      (refine wpAnyZ_takeL (i := 5) (v := ?_) rfl (by kernel_rfl) (fun _ _ _ h => h) (Or.inl ⟨by rfl, ?_⟩) (by assumption) ?_; rotate_left; (focus (intro w' hSw; (try dsimp only at hSw); go_simp; try with_reducible rfl)); simp only [Act.put, List.setIfInBounds_toArray, List.set_cons_zero, List.set_cons_succ])
      (refine wpAnyZ_takeL (i := 6) (v := ?_) rfl (by kernel_rfl) (fun _ _ _ h => h) (Or.inl ⟨by rfl, ?_⟩) (by assumption) ?_; rotate_left; (focus (intro w' hSw; (try dsimp only at hSw); go_simp; try with_reducible rfl)); simp only [Act.put, List.setIfInBounds_toArray, List.set_cons_zero, List.set_cons_succ])
      (refine wpAnyZ_takeL (i := 7) (v := ?_) rfl (by kernel_rfl) (fun _ _ _ h => h) (Or.inl ⟨by rfl, ?_⟩) (by assumption) ?_; rotate_left; (focus (intro w' hSw; (try dsimp only at hSw); go_simp; try with_reducible rfl)); simp only [Act.put, List.setIfInBounds_toArray, List.set_cons_zero, List.set_cons_succ])
      (refine wpAnyZ_takeL (i := 8) (v := ?_) rfl (by kernel_rfl) (fun _ _ _ h => h) (Or.inl ⟨by rfl, ?_⟩) (by assumption) ?_; rotate_left; (focus (intro w' hSw; (try dsimp only at hSw); go_simp; try with_reducible rfl)); simp only [Act.put, List.setIfInBounds_toArray, List.set_cons_zero, List.set_cons_succ])
      (refine wpAnyZ_takeL (i := 9) (v := ?_) rfl (by kernel_rfl) (fun _ _ _ h => h) (Or.inl ⟨by rfl, ?_⟩) (by assumption) ?_; rotate_left; (focus (intro w' hSw; (try dsimp only at hSw); go_simp; try with_reducible rfl)); simp only [Act.put, List.setIfInBounds_toArray, List.set_cons_zero, List.set_cons_succ])
      refine wpAnyZ_ready (rs := [10]) (by kernel_rfl) (by simp) ?_
      refine AllReadyZ.consL rfl (fun K hK => ?_) AllReadyZ.nil
      go_simp
      go_at_call 21
      refine Calls.mono (l5Seats_any ase (x.ld k).sen cse (x.ld k).se y0 HP.out.2.2.2.1 (fun j hj => (HP.out.2.2.2.2.1 j hj).2.2) (HRD.out.2.2.2.2.below HD0.out.bel)) ?_
      rintro e y1 ⟨rfl, hb⟩
      dsimp only
      have HD1 : Hid (SVt W0 y1 base (viewW x) (k + 1) (k + 1) (k + 1) (k) sb 54 #[.int .i64 (x.sa k).id, .string (x.sa k).fr, .string (x.sa k).dst, .int .i64 (x.sa k).dep, .int .i64 (x.sa k).arr, .slice la (x.sa k).la.n lc, .slice ca (x.sa k).ca.n cc, .int .i64 (x.sa k).most] (.slice a3 x.bkn c3) (.slice (some ⟨gr, 0, none⟩) (k + 1) cr2) (.slice (some ⟨gl, 0, none⟩) (k + 1) cl2) (.slice (some ⟨gq, 0, none⟩) (k + 1) cq2) (.slice ap k cp) (.slice (some ⟨gr, 0, none⟩) (k + 1) cr2) (.slice (some ⟨gl, 0, none⟩) (k + 1) cl2) (.slice (some ⟨gq, 0, none⟩) (k + 1) cq2) (.slice ap k cp) E (atV R k (.slice av1 (rowsL (x.ld k) x.bk (x.sa k).id x.bkn).length cv1)) (atV L k (.slice av2 (x.sa k).la.n cv2)) (atV Q k (.slice av3 (x.sa k).ca.n cv3))) := HD0.out.below hb
      refine hK.out _ _ ⟨blk_cell HD1.out.box 4 _ rfl, blk_cell HD1.out.sbx 7 _ rfl, (HX.out _ HD1.out.bel).2.1, (HLC.out _ HD1.out.bel).2.2⟩ (fun hS => ?_)
      clear hK K hb
      simp only [List.set_cons_zero, List.set_cons_succ]
      (refine wpAnyZ_takeL (i := 11) (v := ?_) rfl (by kernel_rfl) (fun _ _ _ h => h) (Or.inl ⟨by rfl, ?_⟩) (by assumption) ?_; rotate_left; (focus (intro w' hSw; (try dsimp only at hSw); go_simp; try with_reducible rfl)); simp only [Act.put, List.setIfInBounds_toArray, List.set_cons_zero, List.set_cons_succ])
      refine wpAnyZ_ready (rs := [12]) (by kernel_rfl) (by simp) ?_
      refine AllReadyZ.consL rfl (fun K hK => ?_) AllReadyZ.nil
      go_simp
      have HD2 : Hid (SVt W0 (y1.alloc (.cells #[.int .i64 ((x.sa k).most - sits (x.ld k).se (x.ld k).sen)] 3)) base (viewW x) (k + 1) (k + 1) (k + 1) (k) sb 54 #[.int .i64 (x.sa k).id, .string (x.sa k).fr, .string (x.sa k).dst, .int .i64 (x.sa k).dep, .int .i64 (x.sa k).arr, .slice la (x.sa k).la.n lc, .slice ca (x.sa k).ca.n cc, .int .i64 (x.sa k).most] (.slice a3 x.bkn c3) (.slice (some ⟨gr, 0, none⟩) (k + 1) cr2) (.slice (some ⟨gl, 0, none⟩) (k + 1) cl2) (.slice (some ⟨gq, 0, none⟩) (k + 1) cq2) (.slice ap k cp) (.slice (some ⟨gr, 0, none⟩) (k + 1) cr2) (.slice (some ⟨gl, 0, none⟩) (k + 1) cl2) (.slice (some ⟨gq, 0, none⟩) (k + 1) cq2) (.slice ap k cp) E (atV R k (.slice av1 (rowsL (x.ld k) x.bk (x.sa k).id x.bkn).length cv1)) (atV L k (.slice av2 (x.sa k).la.n cv2)) (atV Q k (.slice av3 (x.sa k).ca.n cv3))) := HD1.out.below (push (Below.refl _ _) _)
      have HNW : Hid (∀ j u, [(.int .i64 ((x.sa k).most - sits (x.ld k).se (x.ld k).sen) : Value)][j]? = some u → (y1.alloc (.cells #[.int .i64 ((x.sa k).most - sits (x.ld k).se (x.ld k).sen)] 3)).cell? ((⟨y1.heap.size, 0, none⟩ : Addr).add j) = some u) := World.news_of_block (cs := #[.int .i64 ((x.sa k).most - sits (x.ld k).se (x.ld k).sen)]) (t := 3) (fr := (0, 0)) (heap_alloc_new y1 _)
      have hy2 : W0.heap.size ≤ (y1.alloc (.cells #[.int .i64 ((x.sa k).most - sits (x.ld k).se (x.ld k).sen)] 3)).heap.size := Nat.le_of_lt (blk_lt HD2.out.box)
      refine hK.out _ _ ⟨blk_cell HD2.out.box 4 _ rfl, blk_cell HD2.out.sbx 7 _ rfl, (HX.out _ HD2.out.bel).2.1, (HLC.out _ HD2.out.bel).2.2⟩ (fun hS => ?_)
      clear hK K HD1
      simp only [List.set_cons_zero, List.set_cons_succ]
      generalize y1.alloc (.cells #[.int .i64 ((x.sa k).most - sits (x.ld k).se (x.ld k).sen)] 3) = y2 at HD2 HNW hy2 hS ⊢
      refine wpAnyZ_ready (rs := [13]) (by kernel_rfl) (by simp) ?_
      refine AllReadyZ.consL rfl (fun K hK => ?_) AllReadyZ.nil
      refine step_append_lies _ (by rfl) (.tmp 63) (.tmp 74) 31 (by rfl) W0.heap.size 3 p0 (.int .i64 0) 1 8 Tryz.underlying31 pi pz0 pz1 pz2 rfl (by decide) (.slice ap k cp) k (intList (viewW x).pf k) (by rfl) HD2.out.vt.peo ⟨y1.heap.size, 0, none⟩ 1 1 [.int .i64 ((x.sa k).most - sits (x.ld k).se (x.ld k).sen)] (by rfl) (by rfl) HNW.out (by intro u hu; simp at hu; rw [hu]; rfl) (by decide) (by unfold maxLen; omega) (by omega) hy2 y2.heap.size rfl ?_
      intro gp cp2 y3 hoA hgA hatA hltA
      obtain ⟨gw1, gw2, gw3⟩ := HD2.out.grow HD2.out.vt.peo hgA (by decide) (by decide)
      have HD3 : Hid (SVt W0 y3 base (viewW x) (k + 1) (k + 1) (k + 1) (k + 1) sb 54 #[.int .i64 (x.sa k).id, .string (x.sa k).fr, .string (x.sa k).dst, .int .i64 (x.sa k).dep, .int .i64 (x.sa k).arr, .slice la (x.sa k).la.n lc, .slice ca (x.sa k).ca.n cc, .int .i64 (x.sa k).most] (.slice a3 x.bkn c3) (.slice (some ⟨gr, 0, none⟩) (k + 1) cr2) (.slice (some ⟨gl, 0, none⟩) (k + 1) cl2) (.slice (some ⟨gq, 0, none⟩) (k + 1) cq2) (.slice (some ⟨gp, 0, none⟩) (k + 1) cp2) (.slice (some ⟨gr, 0, none⟩) (k + 1) cr2) (.slice (some ⟨gl, 0, none⟩) (k + 1) cl2) (.slice (some ⟨gq, 0, none⟩) (k + 1) cq2) (.slice ap k cp) E (atV R k (.slice av1 (rowsL (x.ld k) x.bk (x.sa k).id x.bkn).length cv1)) (atV L k (.slice av2 (x.sa k).la.n cv2)) (atV Q k (.slice av3 (x.sa k).ca.n cv3))) := ⟨HD2.out.vt.people hgA hoA (fun b q => by simp only [Value.ownBlock, Option.some.injEq] at q; subst q; rcases hatA with h | h; exact .inl h; exact .inr (by omega)), gw1, gw2, gw3, HD2.out.lt⟩
      refine hK.out _ _ ⟨blk_cell HD3.out.box 4 _ rfl, blk_cell HD3.out.sbx 7 _ rfl, (HX.out _ HD3.out.bel).2.1, (HLC.out _ HD3.out.bel).2.2⟩ (fun hS => ?_)
      clear hK K HD2 HD0 HNW hoA hgA hatA hltA gw1 gw2 gw3 hy2
      simp only [Act.put, List.setIfInBounds_toArray, List.set_cons_zero, List.set_cons_succ]
      (refine wpAnyZ_takeL (i := 14) (v := ?_) rfl (by kernel_rfl) (fun _ _ _ h => h) (Or.inl ⟨by rfl, ?_⟩) (by assumption) ?_; rotate_left; (focus (intro w' hSw; (try dsimp only at hSw); go_simp; try with_reducible rfl)); simp only [Act.put, List.setIfInBounds_toArray, List.set_cons_zero, List.set_cons_succ])
      have zc := blk_cell HD3.out.box 4 _ rfl
      have zf := blk_free HD3.out.box 4
      have hst := HD3.out.sto 4 (.slice (some ⟨gp, 0, none⟩) (k + 1) cp2)
      have HS0 : Hid (SVt W0 (y3.setCell ⟨W0.heap.size, 4, none⟩ (.slice (some ⟨gp, 0, none⟩) (k + 1) cp2)) base (viewW x) (k + 1) (k + 1) (k + 1) (k + 1) sb 54 #[.int .i64 (x.sa k).id, .string (x.sa k).fr, .string (x.sa k).dst, .int .i64 (x.sa k).dep, .int .i64 (x.sa k).arr, .slice la (x.sa k).la.n lc, .slice ca (x.sa k).ca.n cc, .int .i64 (x.sa k).most] (.slice a3 x.bkn c3) (.slice (some ⟨gr, 0, none⟩) (k + 1) cr2) (.slice (some ⟨gl, 0, none⟩) (k + 1) cl2) (.slice (some ⟨gq, 0, none⟩) (k + 1) cq2) (.slice (some ⟨gp, 0, none⟩) (k + 1) cp2) (.slice (some ⟨gr, 0, none⟩) (k + 1) cr2) (.slice (some ⟨gl, 0, none⟩) (k + 1) cl2) (.slice (some ⟨gq, 0, none⟩) (k + 1) cq2) (.slice (some ⟨gp, 0, none⟩) (k + 1) cp2) E (atV R k (.slice av1 (rowsL (x.ld k) x.bk (x.sa k).id x.bkn).length cv1)) (atV L k (.slice av2 (x.sa k).la.n cv2)) (atV Q k (.slice av3 (x.sa k).ca.n cv3))) := ⟨hst.1, hst.2.1, hst.2.2.1, hst.2.2.2, HD3.out.lt⟩
      clear hst
      refine wpAnyZ_ready (rs := [15]) (by kernel_rfl) (by simp) ?_
      refine AllReadyZ.lastL rfl (fun K hK => ?_)
      go_simp
      refine hK.out _ _ ?_
      clear hK K HD3 zc zf hS
      refine wpAnyZ_done (by kernel_rfl) ?_ _
      generalize y3.setCell ⟨W0.heap.size, 4, none⟩ (.slice (some ⟨gp, 0, none⟩) (k + 1) cp2) = Z3 at HS0 ⊢
      have hTE := HS0.out.vt
      have hBE := HS0.out.box
      have hLE := HS0.out.bel
      clear HS0
      go_wp2
      go_roundw
      case rel => exact ⟨k + 1, _, _, _, _, _, _, _, _, _, _, _, by omega, by go_num, hTE, hBE, hLE⟩
      case measure => simp [intOf]; omega
    · obtain rfl : k = x.san := by omega
      have HV : Hid (viewA x = viewW x) := viewA_yes HOK.out
      have hwr : Below w.heap.size w wr := hbw3.trans (HBL.out.mono hbw3.size)
      have bRr := blk_below bR3 HBL.out
      have hkF : Kept wr (((((wr.setCell ⟨w.heap.size + 1, 0, none⟩ (.slice a3 x.bkn c3)).setCell ⟨w.heap.size + 1, 1, none⟩ (.slice ar x.san cr)).setCell ⟨w.heap.size + 1, 2, none⟩ (.slice al x.san cl)).setCell ⟨w.heap.size + 1, 3, none⟩ (.slice aq x.san cq)).setCell ⟨w.heap.size + 1, 4, none⟩ (.slice ap x.san cp)) (fun b => b = w.heap.size + 1) := ((((Kept.refl wr (fun b => b = w.heap.size + 1)).set (a := ⟨w.heap.size + 1, 0, none⟩) rfl _).set (a := ⟨w.heap.size + 1, 1, none⟩) rfl _).set (a := ⟨w.heap.size + 1, 2, none⟩) rfl _).set (a := ⟨w.heap.size + 1, 3, none⟩) rfl _ |>.set (a := ⟨w.heap.size + 1, 4, none⟩) rfl _
      have HW : Hid _ := (VTo.whole (V := viewW x) HT.out).kept hkF (fun b e h1 h2 => by have e : b = w.heap.size + 1 := e; omega)
      have rF : (((((wr.setCell ⟨w.heap.size + 1, 0, none⟩ (.slice a3 x.bkn c3)).setCell ⟨w.heap.size + 1, 1, none⟩ (.slice ar x.san cr)).setCell ⟨w.heap.size + 1, 2, none⟩ (.slice al x.san cl)).setCell ⟨w.heap.size + 1, 3, none⟩ (.slice aq x.san cq)).setCell ⟨w.heap.size + 1, 4, none⟩ (.slice ap x.san cp)).heap[w.heap.size + 1]? = some (.cells #[.slice a3 x.bkn c3, .slice ar x.san cr, .slice al x.san cl, .slice aq x.san cq, .slice ap x.san cp] 33 (0, 0)) := blk_set (blk_set (blk_set (blk_set (blk_set bRr 0 _) 1 _) 2 _) 3 _) 4 _
      have hbF : Below w.heap.size w (((((wr.setCell ⟨w.heap.size + 1, 0, none⟩ (.slice a3 x.bkn c3)).setCell ⟨w.heap.size + 1, 1, none⟩ (.slice ar x.san cr)).setCell ⟨w.heap.size + 1, 2, none⟩ (.slice al x.san cl)).setCell ⟨w.heap.size + 1, 3, none⟩ (.slice aq x.san cq)).setCell ⟨w.heap.size + 1, 4, none⟩ (.slice ap x.san cp)) := setV (setV (setV (setV (setV hwr (by omega) _) (by omega) _) (by omega) _) (by omega) _) (by omega) _
      have v0 := blk_cell HVX.out 0 _ rfl
      have v1 := blk_cell HVX.out 1 _ rfl
      have v2 := blk_cell HVX.out 2 _ rfl
      have v3 := blk_cell HVX.out 3 _ rfl
      have v4 := blk_cell HVX.out 4 _ rfl
      have z0 := blk_cell bRr 0 _ rfl
      have z1 := blk_cell bRr 1 _ rfl
      have z2 := blk_cell bRr 2 _ rfl
      have z3 := blk_cell bRr 3 _ rfl
      have z4 := blk_cell bRr 4 _ rfl
      have f0 := blk_free bRr 0
      have f1 := blk_free bRr 1
      have f2 := blk_free bRr 2
      have f3 := blk_free bRr 3
      have f4 := blk_free bRr 4
      clear HT hkF hwr HVX HBL
      go_wp2
      generalize ((((wr.setCell ⟨w.heap.size + 1, 0, none⟩ (.slice a3 x.bkn c3)).setCell ⟨w.heap.size + 1, 1, none⟩ (.slice ar x.san cr)).setCell ⟨w.heap.size + 1, 2, none⟩ (.slice al x.san cl)).setCell ⟨w.heap.size + 1, 3, none⟩ (.slice aq x.san cq)).setCell ⟨w.heap.size + 1, 4, none⟩ (.slice ap x.san cp) = UF at HW rF hbF ⊢
      clear v0 v1 v2 v3 v4 z0 z1 z2 z3 z4 f0 f1 f2 f3 f4 bRr
      obtain ⟨ab, cb, ar', cr', al', cl', aq', cq', ap', cp', e1, e2, e3, e4, e5, hat⟩ := HW.out.form
      have z0 := blk_cell rF 0 _ rfl
      have z1 := blk_cell rF 1 _ rfl
      have z2 := blk_cell rF 2 _ rfl
      have z3 := blk_cell rF 3 _ rfl
      have z4 := blk_cell rF 4 _ rfl
      refine bodyPost_ret (v := .tuple #[.agg #[.slice a3 x.bkn c3, .slice ar x.san cr, .slice al x.san cl, .slice aq x.san cq, .slice ap x.san cp], .bool true]) (by simp [results, Tryz.results5, go_sem, z0, z1, z2, z3, z4]) rfl ⟨?_, hbF⟩
      rw [HV.out, ed]
      refine ⟨a3, c3, ar, cr, al, cl, aq, cq, ap, cp, rfl, ?_⟩
      cases e1; cases e2; cases e3; cases e4; cases e5
      exact hat
end Go.Proofs.YtlelckbeoclhbaaGreat

namespace Go.Proofs.YtlelckbeoclhbaaGreat
open Go.RowKit
theorem eqView_same (ab ar al aq ap ab' ar' al' aq' ap' : Option Addr) (cb cr cl cq cp cb' cr' cl' cq' cp' : Nat) (V : ViewW) (w : World) (hs : VShort V) (h1 : ViewAt w ab ar al aq ap V) (h2 : ViewAt w ab' ar' al' aq' ap' V) :
    Calls Tryz.prog 8 #[.agg #[.slice ab V.bn cb, .slice ar V.N cr, .slice al V.N cl, .slice aq V.N cq, .slice ap V.N cp], .agg #[.slice ab' V.bn cb', .slice ar' V.N cr', .slice al' V.N cl', .slice aq' V.N cq', .slice ap' V.N cp']] w fun e w' => e = .returned (.bool true) ∧ Below w.heap.size w w' := by
  have HS : Hid (VShort V) := hs
  have h3 := hs.1
  have h4 := hs.2.2.1
  have HX : Hid (ViewAt w ab ar al aq ap V) := h1
  have HY : Hid (ViewAt w ab' ar' al' aq' ap' V) := h2
  have hb0 : Below w.heap.size w ((w.alloc (.cells #[.slice ab V.bn cb, .slice ar V.N cr, .slice al V.N cl, .slice aq V.N cq, .slice ap V.N cp] 33)).alloc (.cells #[.slice ab' V.bn cb', .slice ar' V.N cr', .slice al' V.N cl', .slice aq' V.N cq', .slice ap' V.N cp'] 33)) := push (push (Below.refl _ _) _) _
  have bA : ((w.alloc (.cells #[.slice ab V.bn cb, .slice ar V.N cr, .slice al V.N cl, .slice aq V.N cq, .slice ap V.N cp] 33)).alloc (.cells #[.slice ab' V.bn cb', .slice ar' V.N cr', .slice al' V.N cl', .slice aq' V.N cq', .slice ap' V.N cp'] 33)).heap[w.heap.size]? = some (.cells #[.slice ab V.bn cb, .slice ar V.N cr, .slice al V.N cl, .slice aq V.N cq, .slice ap V.N cp] 33 (0, 0)) := blk_alloc (heap_alloc_new w _) _
  have bB : ((w.alloc (.cells #[.slice ab V.bn cb, .slice ar V.N cr, .slice al V.N cl, .slice aq V.N cq, .slice ap V.N cp] 33)).alloc (.cells #[.slice ab' V.bn cb', .slice ar' V.N cr', .slice al' V.N cl', .slice aq' V.N cq', .slice ap' V.N cp'] 33)).heap[w.heap.size + 1]? = some (.cells #[.slice ab' V.bn cb', .slice ar' V.N cr', .slice al' V.N cl', .slice aq' V.N cq', .slice ap' V.N cp'] 33 (0, 0)) := by
    have h := heap_alloc_new (w.alloc (.cells #[.slice ab V.bn cb, .slice ar V.N cr, .slice al V.N cl, .slice aq V.N cq, .slice ap V.N cp] 33)) (.cells #[.slice ab' V.bn cb', .slice ar' V.N cr', .slice al' V.N cl', .slice aq' V.N cq', .slice ap' V.N cp'] 33)
    rw [show (w.alloc (.cells #[.slice ab V.bn cb, .slice ar V.N cr, .slice al V.N cl, .slice aq V.N cq, .slice ap V.N cp] 33)).heap.size = w.heap.size + 1 by simp] at h
    exact h
  clear hs h1 h2
  go_enter Tryz.func8, Tryz.ntmps8
  go_upto_region 1 with fail
  generalize (w.alloc (.cells #[.slice ab V.bn cb, .slice ar V.N cr, .slice al V.N cl, .slice aq V.N cq, .slice ap V.N cp] 33)).alloc (.cells #[.slice ab' V.bn cb', .slice ar' V.N cr', .slice al' V.N cl', .slice aq' V.N cq', .slice ap' V.N cp'] 33) = W0 at hb0 bA bB ⊢
  have x0 := blk_cell bA 0 _ rfl
  have y0 := blk_cell bB 0 _ rfl
  go_wp2_with fail
  refine (eqBookingS_same ab ab' V.bn cb cb' V.bk W0 (by omega) HS.out.2.1 (HX.out.bks.below hb0) (HY.out.bks.below hb0)).mono ?_
  rintro e W1 ⟨rfl, hc⟩
  replace bA := blk_below bA hc
  replace bB := blk_below bB hc
  have hb1 := after hb0 hc
  clear x0 y0 hb0 hc
  have x1 := blk_cell bA 1 _ rfl
  have y1 := blk_cell bB 1 _ rfl
  go_wp2_with fail
  refine (eqRowSS_same ar ar' V.N cr cr' V.rn V.rf W1 (by omega) HS.out.2.2.2.1 (HX.out.rows.below hb1) (HY.out.rows.below hb1)).mono ?_
  rintro e W2 ⟨rfl, hc⟩
  replace bA := blk_below bA hc
  replace bB := blk_below bB hc
  have hb2 := after hb1 hc
  clear x1 y1 hb1 hc
  have x2 := blk_cell bA 2 _ rfl
  have y2 := blk_cell bB 2 _ rfl
  go_wp2_with fail
  refine (eqIntSS_same al al' V.N cl cl' V.ln V.lf W2 (by omega) HS.out.2.2.2.2.1 (HX.out.lan.below hb2) (HY.out.lan.below hb2)).mono ?_
  rintro e W3 ⟨rfl, hc⟩
  replace bA := blk_below bA hc
  replace bB := blk_below bB hc
  have hb3 := after hb2 hc
  clear x2 y2 hb2 hc
  have x3 := blk_cell bA 3 _ rfl
  have y3 := blk_cell bB 3 _ rfl
  go_wp2_with fail
  refine (eqIntSS_same aq aq' V.N cq cq' V.qn V.qf W3 (by omega) HS.out.2.2.2.2.2 (HX.out.ber.below hb3) (HY.out.ber.below hb3)).mono ?_
  rintro e W4 ⟨rfl, hc⟩
  replace bA := blk_below bA hc
  replace bB := blk_below bB hc
  have hb4 := after hb3 hc
  clear x3 y3 hb3 hc
  have x4 := blk_cell bA 4 _ rfl
  have y4 := blk_cell bB 4 _ rfl
  go_wp2_with fail
  refine (eqIntS_same ap ap' V.N cp cp' V.pf W4 (by omega) (HX.out.peo.below hb4) (HY.out.peo.below hb4)).mono ?_
  rintro e W5 ⟨rfl, hc⟩
  replace bA := blk_below bA hc
  replace bB := blk_below bB hc
  have hb5 := after hb4 hc
  clear x4 y4 hb4 hc
  go_wp2
  go_ret
  exact ⟨rfl, hb5⟩
theorem markView_own (ab ar al aq ap : Option Addr) (cb cr cl cq cp base lim k0 : Nat) (V : ViewW) (E R L Q : Nat → Value) (w : World) (hs : VShort V) (hk : k0 ≤ 1000) (h : OwnView w base lim V (.slice ab V.bn cb) (.slice ar V.N cr) (.slice al V.N cl) (.slice aq V.N cq) (.slice ap V.N cp) E R L Q) :
    Calls Tryz.prog 11 #[.agg #[.slice ab V.bn cb, .slice ar V.N cr, .slice al V.N cl, .slice aq V.N cq, .slice ap V.N cp], .int .i64 (k0 : Int)] w fun e w' => e = .returned (.int .i64 ((kV V k0 : Nat) : Int)) ∧ OwnView w' base lim (mV V k0) (.slice ab V.bn cb) (.slice ar V.N cr) (.slice al V.N cl) (.slice aq V.N cq) (.slice ap V.N cp) E R L Q ∧ Kept w w' (VwB V (.slice ab V.bn cb) (.slice ap V.N cp) E R L Q) := by
  have HS : Hid (VShort V) := hs
  have HLE := kV_le hs hk
  have h3 := hs.1
  have h4 := hs.2.2.1
  have H0 : Hid (OwnView (w.alloc (.cells #[.slice ab V.bn cb, .slice ar V.N cr, .slice al V.N cl, .slice aq V.N cq, .slice ap V.N cp] 33)) base lim V (.slice ab V.bn cb) (.slice ar V.N cr) (.slice al V.N cl) (.slice aq V.N cq) (.slice ap V.N cp) E R L Q) := h.below (push (Below.refl _ _) _)
  have HBL : Hid (∀ b, VwB V (.slice ab V.bn cb) (.slice ap V.N cp) E R L Q b → b < w.heap.size) := fun b e => (h.blk b e).2
  have bA := heap_alloc_new w (.cells #[.slice ab V.bn cb, .slice ar V.N cr, .slice al V.N cl, .slice aq V.N cq, .slice ap V.N cp] 33)
  have hk0 : Kept w (w.alloc (.cells #[.slice ab V.bn cb, .slice ar V.N cr, .slice al V.N cl, .slice aq V.N cq, .slice ap V.N cp] 33)) (VwB V (.slice ab V.bn cb) (.slice ap V.N cp) E R L Q) := Kept.of_below (push (Below.refl _ _) _)
  obtain ⟨e1, e2, e3, e4⟩ := HLE
  clear hs h
  go_enter Tryz.func11, Tryz.ntmps11
  go_upto_region 1 with fail
  generalize w.alloc (.cells #[.slice ab V.bn cb, .slice ar V.N cr, .slice al V.N cl, .slice aq V.N cq, .slice ap V.N cp] 33) = W0 at H0 bA hk0 ⊢
  have x0 := blk_cell bA 0 _ rfl
  go_wp2_with fail
  refine (markBks_own ab V.bn cb base k0 V.bk E W0 (by omega) (by omega) (vshort_lg HS.out) H0.out.bks).mono ?_
  rintro e W1 ⟨rfl, o1, m1⟩
  have fa : ∀ {e sz n : Nat} {v : Value} {xs : List Value}, W0.ownsRow lim e sz v n xs → ∀ b, v.ownBlock = some b → ¬ BkB (.slice ab V.bn cb) V.bn E b := fun ho b q1 q2 => by have := (World.ownsRow.lt ho b q1).1; have := H0.out.bkl b q2; omega
  have HR1 : Hid _ := H0.out.rows.kept m1 (fa H0.out.rows.row) (fun i hi => fa (H0.out.rows.each i hi))
  have HL1 : Hid _ := H0.out.lan.kept m1 (fa H0.out.lan.row) (fun i hi => fa (H0.out.lan.each i hi))
  have HQ1 : Hid _ := H0.out.ber.kept m1 (fa H0.out.ber.row) (fun i hi => fa (H0.out.ber.each i hi))
  have HP1 : Hid _ := m1.own H0.out.peo (fa H0.out.peo)
  have HO1 : Hid (OwnBks W1 base (.slice ab V.bn cb) V.bn (mB V.bk k0) E) := o1
  have t1 := hk0.trans (m1.mono (fun b e => .inl e))
  have b1 := m1.blk bA (fun e => by have := HBL.out _ (.inl e); omega)
  clear x0 m1 fa o1 bA hk0
  have x1 := blk_cell b1 1 _ rfl
  go_wp2_with fail
  refine (markRowSS_own _ ar V.N cr lim (kB V.bk k0 V.bn) V.rn V.rf R W1 rfl (by omega) (by omega) HS.out.2.2.2.1 HR1.out).mono ?_
  rintro e W2 ⟨rfl, o2, m2⟩
  have ty : ∀ {be e sz n : Nat} {v : Value} {xs : List Value}, W1.ownsRow be e sz v n xs → 116 ≠ e → ∀ b, v.ownBlock = some b → ¬ SsB V.N R b := fun ho hne b q1 ⟨i, hi, q2⟩ => own_apart (HR1.out.each i hi) ho hne b q2 q1
  have HO2 : Hid (OwnBks W2 base (.slice ab V.bn cb) V.bn (mB V.bk k0) E) := ⟨m2.own HO1.out.row (ty HO1.out.row (by decide)), fun i hi => m2.own (HO1.out.legs i hi) (ty (HO1.out.legs i hi) (by decide)), HO1.out.apart⟩
  have HL2 : Hid _ := HL1.out.kept m2 (ty HL1.out.row (by decide)) (fun i hi => ty (HL1.out.each i hi) (by decide))
  have HQ2 : Hid _ := HQ1.out.kept m2 (ty HQ1.out.row (by decide)) (fun i hi => ty (HQ1.out.each i hi) (by decide))
  have HP2 : Hid _ := m2.own HP1.out (ty HP1.out (by decide))
  have HR2 : Hid (OwnSS W2 lim 55 116 5 (.slice ar V.N cr) V.N V.rn (fun i => rowList (rowMark (kQ 5 V.rn (kB V.bk k0 V.bn) i)) (V.rn i)) R) := o2
  have t2 := t1.trans (m2.mono (fun b e => .inr (.inl e)))
  have b2 := m2.blk b1 (fun e => by have := HBL.out _ (.inr (.inl e)); omega)
  clear x1 m2 ty o2 b1 t1 HO1 HR1 HL1 HQ1 HP1
  have x2 := blk_cell b2 2 _ rfl
  go_wp2_with fail
  refine (markIntSS_own _ al V.N cl lim (kQ 5 V.rn (kB V.bk k0 V.bn) V.N) V.ln V.lf L W2 rfl (by omega) (by omega) HS.out.2.2.2.2.1 HL2.out).mono ?_
  rintro e W3 ⟨rfl, o3, m3⟩
  have hlB : ∀ b, SsB V.N L b → lim ≤ b := fun b ⟨i, hi, q⟩ => ((HL2.out.each i hi).lt b q).1
  have ty : ∀ {be e sz n : Nat} {v : Value} {xs : List Value}, W2.ownsRow be e sz v n xs → 3 ≠ e → ∀ b, v.ownBlock = some b → ¬ SsB V.N L b := fun ho hne b q1 ⟨i, hi, q2⟩ => own_apart (HL2.out.each i hi) ho hne b q2 q1
  have HO3 : Hid (OwnBks W3 base (.slice ab V.bn cb) V.bn (mB V.bk k0) E) := ⟨m3.own HO2.out.row (ty HO2.out.row (by decide)), fun i hi => m3.own (HO2.out.legs i hi) (fun b q1 q2 => by have := hlB b q2; have := H0.out.bkl b (.inr ⟨i, hi, q1⟩); omega), HO2.out.apart⟩
  have HR3 : Hid _ := HR2.out.kept m3 (ty HR2.out.row (by decide)) (fun i hi => ty (HR2.out.each i hi) (by decide))
  have HQ3 : Hid _ := HQ2.out.kept m3 (ty HQ2.out.row (by decide)) (fun j hj b q1 ⟨i, hi, q2⟩ => H0.out.a1 i j hi hj b q2 q1)
  have HP3 : Hid _ := m3.own HP2.out (fun b q1 ⟨i, hi, q2⟩ => H0.out.a2 i hi b q2 q1)
  have HL3 : Hid (OwnSS W3 lim 31 3 1 (.slice al V.N cl) V.N V.ln (fun i => intList (fun j => ((kQ 1 V.ln (kQ 5 V.rn (kB V.bk k0 V.bn) V.N) i : Nat) : Int) + j) (V.ln i)) L) := o3
  have t3 := t2.trans (m3.mono (fun b e => .inr (.inr (.inl e))))
  have b3 := m3.blk b2 (fun e => by have := HBL.out _ (.inr (.inr (.inl e))); omega)
  clear x2 m3 ty o3 b2 t2 HO2 HR2 HL2 HQ2 HP2 hlB
  have x3 := blk_cell b3 3 _ rfl
  go_wp2_with fail
  refine (markIntSS_own _ aq V.N cq lim (kQ 1 V.ln (kQ 5 V.rn (kB V.bk k0 V.bn) V.N) V.N) V.qn V.qf Q W3 rfl (by omega) (by omega) HS.out.2.2.2.2.2 HQ3.out).mono ?_
  rintro e W4 ⟨rfl, o4, m4⟩
  have hqB : ∀ b, SsB V.N Q b → lim ≤ b := fun b ⟨i, hi, q⟩ => ((HQ3.out.each i hi).lt b q).1
  have ty : ∀ {be e sz n : Nat} {v : Value} {xs : List Value}, W3.ownsRow be e sz v n xs → 3 ≠ e → ∀ b, v.ownBlock = some b → ¬ SsB V.N Q b := fun ho hne b q1 ⟨i, hi, q2⟩ => own_apart (HQ3.out.each i hi) ho hne b q2 q1
  have HO4 : Hid (OwnBks W4 base (.slice ab V.bn cb) V.bn (mB V.bk k0) E) := ⟨m4.own HO3.out.row (ty HO3.out.row (by decide)), fun i hi => m4.own (HO3.out.legs i hi) (fun b q1 q2 => by have := hqB b q2; have := H0.out.bkl b (.inr ⟨i, hi, q1⟩); omega), HO3.out.apart⟩
  have HR4 : Hid _ := HR3.out.kept m4 (ty HR3.out.row (by decide)) (fun i hi => ty (HR3.out.each i hi) (by decide))
  have HL4 : Hid _ := HL3.out.kept m4 (ty HL3.out.row (by decide)) (fun i hi b q1 ⟨j, hj, q2⟩ => H0.out.a1 i j hi hj b q1 q2)
  have HP4 : Hid _ := m4.own HP3.out (fun b q1 ⟨i, hi, q2⟩ => H0.out.a3 i hi b q2 q1)
  have HQ4 : Hid (OwnSS W4 lim 31 3 1 (.slice aq V.N cq) V.N V.qn (fun i => intList (fun j => ((kQ 1 V.qn (kQ 1 V.ln (kQ 5 V.rn (kB V.bk k0 V.bn) V.N) V.N) i : Nat) : Int) + j) (V.qn i)) Q) := o4
  have t4 := t3.trans (m4.mono (fun b e => .inr (.inr (.inr (.inl e)))))
  have b4 := m4.blk b3 (fun e => by have := HBL.out _ (.inr (.inr (.inr (.inl e)))); omega)
  clear x3 m4 ty o4 b3 t3 HO3 HR3 HL3 HQ3 HP3 hqB
  have x4 := blk_cell b4 4 _ rfl
  go_wp2_with fail
  refine (markIntZ _ (.slice ap V.N cp) V.N lim (kQ 1 V.qn (kQ 1 V.ln (kQ 5 V.rn (kB V.bk k0 V.bn) V.N) V.N) V.N) V.pf W4 rfl (by omega) (by omega) HP4.out).mono ?_
  rintro e W5 ⟨rfl, o5, m5⟩
  have ty : ∀ {be e sz n : Nat} {v : Value} {xs : List Value}, W4.ownsRow be e sz v n xs → 3 ≠ e → ∀ b, v.ownBlock = some b → ¬ (Value.slice ap V.N cp).ownBlock = some b := fun ho hne b q1 q2 => own_apart HP4.out ho hne b q2 q1
  have HF : Hid (OwnView W5 base lim (mV V k0) (.slice ab V.bn cb) (.slice ar V.N cr) (.slice al V.N cl) (.slice aq V.N cq) (.slice ap V.N cp) E R L Q) := by
    refine ⟨⟨m5.own HO4.out.row (ty HO4.out.row (by decide)), fun i hi => m5.own (HO4.out.legs i hi) (fun b q1 q2 => ?_), HO4.out.apart⟩, H0.out.bkl, HR4.out.kept m5 (ty HR4.out.row (by decide)) (fun i hi => ty (HR4.out.each i hi) (by decide)), HL4.out.kept m5 (ty HL4.out.row (by decide)) (fun i hi b q1 q2 => H0.out.a2 i hi b q1 q2), HQ4.out.kept m5 (ty HQ4.out.row (by decide)) (fun i hi b q1 q2 => H0.out.a3 i hi b q1 q2), o5, H0.out.a1, H0.out.a2, H0.out.a3, H0.out.a4, H0.out.le⟩
    have := (World.ownsRow.lt HP4.out b q2).1
    have := H0.out.bkl b (.inr ⟨i, hi, q1⟩)
    omega
  have t5 := t4.trans (m5.mono (fun b e => .inr (.inr (.inr (.inr e)))))
  clear x4 m5 ty o5 b4 t4 HO4 HR4 HL4 HQ4 HP4
  go_wp2
  go_ret
  exact ⟨rfl, HF.out, t5⟩
theorem heldView_yes (ab ar al aq ap : Option Addr) (cb cr cl cq cp k0 : Nat) (V : ViewW) (w : World) (hs : VShort V) (hk : k0 ≤ 1000) (h : ViewAt w ab ar al aq ap (mV V k0)) :
    Calls Tryz.prog 12 #[.agg #[.slice ab V.bn cb, .slice ar V.N cr, .slice al V.N cl, .slice aq V.N cq, .slice ap V.N cp], .int .i64 (k0 : Int)] w fun e w' => e = .returned (.int .i64 ((kV V k0 : Nat) : Int)) ∧ Below w.heap.size w w' := by
  have HS : Hid (VShort V) := hs
  have h3 := hs.1
  have h4 := hs.2.2.1
  obtain ⟨e1, e2, e3, e4⟩ := kV_le hs hk
  have HX : Hid (ViewAt w ab ar al aq ap (mV V k0)) := h
  have hb0 : Below w.heap.size w (w.alloc (.cells #[.slice ab V.bn cb, .slice ar V.N cr, .slice al V.N cl, .slice aq V.N cq, .slice ap V.N cp] 33)) := push (Below.refl _ _) _
  have bA := heap_alloc_new w (.cells #[.slice ab V.bn cb, .slice ar V.N cr, .slice al V.N cl, .slice aq V.N cq, .slice ap V.N cp] 33)
  clear hs h
  go_enter Tryz.func12, Tryz.ntmps12
  go_upto_region 1 with fail
  generalize w.alloc (.cells #[.slice ab V.bn cb, .slice ar V.N cr, .slice al V.N cl, .slice aq V.N cq, .slice ap V.N cp] 33) = W0 at hb0 bA ⊢
  have x0 := blk_cell bA 0 _ rfl
  go_wp2_with fail
  refine (heldBks_yes ab V.bn cb k0 V.bk W0 (by omega) (by omega) (vshort_lg HS.out) (HX.out.bks.below hb0)).mono ?_
  rintro e W1 ⟨rfl, hc⟩
  replace bA := blk_below bA hc
  have hb1 := after hb0 hc
  clear x0 hb0 hc
  have d0 : decide (((kB V.bk k0 V.bn : Nat) : Int) < 0) = false := decide_eq_false (by omega)
  have d0' : ¬ ((kB V.bk k0 V.bn : Nat) : Int) < 0 := by omega
  have x1 := blk_cell bA 1 _ rfl
  go_wp2_with fail
  refine (heldRowSS_yes _ ar V.N cr (kB V.bk k0 V.bn) V.rn W1 rfl (by omega) (by omega) HS.out.2.2.2.1 (HX.out.rows.below hb1)).mono ?_
  rintro e W2 ⟨rfl, hc⟩
  replace bA := blk_below bA hc
  have hb2 := after hb1 hc
  clear x1 hb1 hc
  have d1 : decide (((kQ 5 V.rn (kB V.bk k0 V.bn) V.N : Nat) : Int) < 0) = false := decide_eq_false (by omega)
  have d1' : ¬ ((kQ 5 V.rn (kB V.bk k0 V.bn) V.N : Nat) : Int) < 0 := by omega
  have x2 := blk_cell bA 2 _ rfl
  go_wp2_with fail
  refine (heldIntSS_yes _ al V.N cl (kQ 5 V.rn (kB V.bk k0 V.bn) V.N) V.ln W2 rfl (by omega) (by omega) HS.out.2.2.2.2.1 (HX.out.lan.below hb2)).mono ?_
  rintro e W3 ⟨rfl, hc⟩
  replace bA := blk_below bA hc
  have hb3 := after hb2 hc
  clear x2 hb2 hc
  have d2 : decide (((kQ 1 V.ln (kQ 5 V.rn (kB V.bk k0 V.bn) V.N) V.N : Nat) : Int) < 0) = false := decide_eq_false (by omega)
  have d2' : ¬ ((kQ 1 V.ln (kQ 5 V.rn (kB V.bk k0 V.bn) V.N) V.N : Nat) : Int) < 0 := by omega
  have x3 := blk_cell bA 3 _ rfl
  go_wp2_with fail
  refine (heldIntSS_yes _ aq V.N cq (kQ 1 V.ln (kQ 5 V.rn (kB V.bk k0 V.bn) V.N) V.N) V.qn W3 rfl (by omega) (by omega) HS.out.2.2.2.2.2 (HX.out.ber.below hb3)).mono ?_
  rintro e W4 ⟨rfl, hc⟩
  replace bA := blk_below bA hc
  have hb4 := after hb3 hc
  clear x3 hb3 hc
  have d3 : decide (((kQ 1 V.qn (kQ 1 V.ln (kQ 5 V.rn (kB V.bk k0 V.bn) V.N) V.N) V.N : Nat) : Int) < 0) = false := decide_eq_false (by omega)
  have d3' : ¬ ((kQ 1 V.qn (kQ 1 V.ln (kQ 5 V.rn (kB V.bk k0 V.bn) V.N) V.N) V.N : Nat) : Int) < 0 := by omega
  have x4 := blk_cell bA 4 _ rfl
  go_wp2_with fail
  refine (heldIntZ _ ap V.N cp (kQ 1 V.qn (kQ 1 V.ln (kQ 5 V.rn (kB V.bk k0 V.bn) V.N) V.N) V.N) W4 rfl (by omega) (by omega) (HX.out.peo.below hb4)).mono ?_
  rintro e W5 ⟨rfl, hc⟩
  replace bA := blk_below bA hc
  have hb5 := after hb4 hc
  clear x4 hb4 hc
  have d4 : decide (((kQ 1 V.qn (kQ 1 V.ln (kQ 5 V.rn (kB V.bk k0 V.bn) V.N) V.N) V.N + V.N : Nat) : Int) < 0) = false := decide_eq_false (by omega)
  have d4' : ¬ ((kQ 1 V.qn (kQ 1 V.ln (kQ 5 V.rn (kB V.bk k0 V.bn) V.N) V.N) V.N + V.N : Nat) : Int) < 0 := by omega
  go_wp2
  go_ret
  exact ⟨rfl, hb5⟩
end Go.Proofs.YtlelckbeoclhbaaGreat

namespace Go.Proofs.YtlelckbeoclhbaaGreat
open Go.RowKit
theorem toLane_any (a u : Int) (w : World) :
    Calls Tryz.prog 134 #[.agg #[.int .i64 a, .int .i64 u]] w fun e w' => e = .returned (.agg #[.int .i64 a, .int .i64 u]) ∧ Below w.heap.size w w' := by
  go_enter Tryz.func134, Tryz.ntmps134
  go_wp2
  exact bodyPost_ret (v := .agg #[.int .i64 a, .int .i64 u]) (by simp [results, Tryz.results134, go_sem]) rfl ⟨rfl, push (push (push (Below.refl _ _) _) _) _⟩
theorem eqLane_same (a u : Int) (w : World) :
    Calls Tryz.prog 160 #[.agg #[.int .i64 a, .int .i64 u], .agg #[.int .i64 a, .int .i64 u]] w fun e w' => e = .returned (.bool true) ∧ Below w.heap.size w w' := by
  go_enter Tryz.func160, Tryz.ntmps160
  go_wp2
  go_ret
  exact ⟨rfl, push (push (Below.refl _ _) _) _⟩
theorem toLaneS_any (ao : Option Addr) (n cap : Nat) (l : Pairs) (w : World) (hl : l.n = n) (hn : n ≤ 1048576) (hz : PairsAt w ao l) :
    Calls Tryz.prog 99 #[.slice ao n cap] w fun e w' => ∃ g, e = .returned (.slice (some ⟨g, 0, none⟩) n n) ∧ w.heap.size ≤ g ∧
      w'.rowIs g 122 (n * 2) (pairCell l) ∧ Below w.heap.size w w' := by
  obtain ⟨i0, hi, hz0, hz1, hz2⟩ := info_parts Tryz.infoLane
  have HL : Hid (l.n = n) := hl
  clear hl
  go_enter Tryz.func99, Tryz.ntmps99
  go_wp2_with (first | (at_make; refine wpList_make_full _ rfl _ _ 51 rfl w.heap.size 122 i0 _ 2 Tryz.underlying51 hi hz0 hz1 .i64 .i64 _ _ n rfl rfl rfl rfl (by rw [hz2]; omega) (by unfold maxLen; omega) (Nat.le_refl _) ?_; intro w1 hown1 hgrow1))
  go_loopw [4] (fun i wr => ∃ k : Nat, k ≤ n ∧ i = .int .i64 k ∧ wr.rowIs w.heap.size 122 (n * 2) (pairCell (pairsTo k l)) ∧ Below w.heap.size w wr)
    (fun i _ => n - (intOf i).toNat)
  case atStart => exact ⟨0, Nat.zero_le _, rfl, (row_of_own hown1).congr (fun j hj => made_pairs n j hj), (Below.refl _ _).grown hgrow1 (Nat.le_refl _) (by simp)⟩
  case round =>
    obtain ⟨k, hk, rfl, hrow, hbel⟩ := hrel
    clear hown1 hgrow1
    by_cases hlt : k < n
    · obtain ⟨b, off, rfl, h1, h2⟩ := hz k (by rw [HL.out]; omega)
      have hb := World.block_lt_of_cell? w _ h1
      have c1 := (hbel.cell (p := ⟨b, off + k * 2, none⟩) hb).trans h1
      have c2 := (hbel.cell (p := ⟨b, off + k * 2 + 1, none⟩) hb).trans h2
      clear h1 h2
      go_wp2_with (first | (go_at_call 134; refine (toLane_any _ _ _).mono ?_; rintro e w2 ⟨rfl, hb2⟩; have hr2 := hrow.of_block (hb2.block _ hrow.lt); have o1 := hr2.cell (i := k * 2) (by omega); have o2 := hr2.cell (i := k * 2 + 1) (by omega); have f1 := hr2.frozen (k * 2); have f2 := hr2.frozen (k * 2 + 1)))
      go_roundw
      case rel =>
        refine ⟨k + 1, by omega, by go_num, ?_, ?_⟩
        · have := pair_set (k := k) (p' := pairsTo (k + 1) l) hr2 (fun i h => upto_step _ _ _ _ h) (fun i h => upto_step _ _ _ _ h)
          simp only [pairsTo, upto_lt _ _ (Nat.lt_succ_self k)] at this
          exact this
        · exact ((after hbel hb2).setCell (Nat.le_refl _) _).setCell (Nat.le_refl _) _
      case measure => simp [intOf]; omega
    · go_wp2
      go_ret
      exact ⟨_, rfl, Nat.le_refl _, hrow.congr (fun j hj => by unfold pairCell pairsTo; simp only; rw [upto_lt _ _ (by omega), upto_lt _ _ (by omega)]), hbel⟩
theorem eqLaneS_same (ao bo : Option Addr) (n c1 c2 : Nat) (l : Pairs) (w : World) (hl : l.n = n) (hn : n ≤ 1048576) (hx : PairsAt w ao l) (hy : PairsAt w bo l) :
    Calls Tryz.prog 128 #[.slice ao n c1, .slice bo n c2] w fun e w' => e = .returned (.bool true) ∧ Below w.heap.size w w' := by
  have HL : Hid (l.n = n) := hl
  clear hl
  go_enter Tryz.func128, Tryz.ntmps128
  go_wp2
  go_loopw [5] (fun i wr => ∃ k : Nat, k ≤ n ∧ i = .int .i64 k ∧ Below w.heap.size w wr) (fun i _ => n - (intOf i).toNat)
  case atStart => exact ⟨0, Nat.zero_le _, rfl, Below.refl _ _⟩
  case round =>
    obtain ⟨k, hk, rfl, hbel⟩ := hrel
    by_cases hlt : k < n
    · obtain ⟨b, off, rfl, h1, h2⟩ := hx k (by rw [HL.out]; omega)
      obtain ⟨b2, off2, rfl, g1, g2⟩ := hy k (by rw [HL.out]; omega)
      have hb := World.block_lt_of_cell? w _ h1
      have hb2 := World.block_lt_of_cell? w _ g1
      have c1 := (hbel.cell (p := ⟨b, off + k * 2, none⟩) hb).trans h1
      have c2 := (hbel.cell (p := ⟨b, off + k * 2 + 1, none⟩) hb).trans h2
      have d1 := (hbel.cell (p := ⟨b2, off2 + k * 2, none⟩) hb2).trans g1
      have d2 := (hbel.cell (p := ⟨b2, off2 + k * 2 + 1, none⟩) hb2).trans g2
      clear h1 h2 g1 g2
      have hbw : b < wr.heap.size := Nat.lt_of_lt_of_le hb hbel.size
      have hbw2 : b2 < wr.heap.size := Nat.lt_of_lt_of_le hb2 hbel.size
      have i1 : (0 : Int) ≤ (k : Int) := by omega
      have i2 : (k : Int) < (n : Int) := by omega
      go_wp2
      go_region_held3 (fun w' => w'.cell? ⟨b, off + k * 2, none⟩ = some (.int .i64 (l.A k)) ∧ w'.cell? ⟨b, off + k * 2 + 1, none⟩ = some (.int .i64 (l.B k)) ∧ w'.cell? ⟨b2, off2 + k * 2, none⟩ = some (.int .i64 (l.A k)) ∧ w'.cell? ⟨b2, off2 + k * 2 + 1, none⟩ = some (.int .i64 (l.B k)))
        (first | exact ⟨c1, c2, d1, d2⟩ | exact ⟨(hbb.cell hbw).trans c1, (hbb.cell hbw).trans c2, (hbb.cell hbw2).trans d1, (hbb.cell hbw2).trans d2⟩)
        (first | (go_at_call 160; refine (eqLane_same _ _ _).mono ?_; rintro e w2 ⟨rfl, hbb⟩))
      go_wp2
      go_roundw
      case rel => exact ⟨k + 1, by omega, by go_num, after hbel.drew hbb⟩
      case measure => simp [intOf]; omega
    · go_wp2
      go_ret
      exact ⟨rfl, hbel⟩
theorem szLaneS_any (ao : Option Addr) (n c : Nat) (L : Int) (w : World) (h0 : 0 ≤ L) (hL : L ≤ 1048576) (hn : n ≤ 1000000000000000) :
    Calls Tryz.prog 82 #[.slice ao n c, .int .i64 L] w fun e w' => ∃ r : Int, e = .returned (.int .i64 r) ∧ (r = -1 ∨ (0 ≤ r ∧ r ≤ L ∧ n ≤ 1048576)) ∧ Below w.heap.size w w' := by
  by_cases h : (n : Int) ≤ L
  · go_enter Tryz.func82, Tryz.ntmps82
    go_wp2
    go_ret
    exact ⟨_, rfl, .inr ⟨by omega, by omega, by omega⟩, Below.refl _ _⟩
  · go_enter Tryz.func82, Tryz.ntmps82
    go_wp2
    go_ret
    exact ⟨_, rfl, .inl rfl, Below.refl _ _⟩
theorem toCabin_any (a u : Int) (w : World) :
    Calls Tryz.prog 135 #[.agg #[.int .i64 a, .int .i64 u]] w fun e w' => e = .returned (.agg #[.int .i64 a, .int .i64 u]) ∧ Below w.heap.size w w' := by
  go_enter Tryz.func135, Tryz.ntmps135
  go_wp2
  exact bodyPost_ret (v := .agg #[.int .i64 a, .int .i64 u]) (by simp [results, Tryz.results135, go_sem]) rfl ⟨rfl, push (push (push (Below.refl _ _) _) _) _⟩
theorem eqCabin_same (a u : Int) (w : World) :
    Calls Tryz.prog 161 #[.agg #[.int .i64 a, .int .i64 u], .agg #[.int .i64 a, .int .i64 u]] w fun e w' => e = .returned (.bool true) ∧ Below w.heap.size w w' := by
  go_enter Tryz.func161, Tryz.ntmps161
  go_wp2
  go_ret
  exact ⟨rfl, push (push (Below.refl _ _) _) _⟩
theorem toCabinS_any (ao : Option Addr) (n cap : Nat) (l : Pairs) (w : World) (hl : l.n = n) (hn : n ≤ 1048576) (hz : PairsAt w ao l) :
    Calls Tryz.prog 100 #[.slice ao n cap] w fun e w' => ∃ g, e = .returned (.slice (some ⟨g, 0, none⟩) n n) ∧ w.heap.size ≤ g ∧
      w'.rowIs g 124 (n * 2) (pairCell l) ∧ Below w.heap.size w w' := by
  obtain ⟨i0, hi, hz0, hz1, hz2⟩ := info_parts Tryz.infoCabin
  have HL : Hid (l.n = n) := hl
  clear hl
  go_enter Tryz.func100, Tryz.ntmps100
  go_wp2_with (first | (at_make; refine wpList_make_full _ rfl _ _ 52 rfl w.heap.size 124 i0 _ 2 Tryz.underlying52 hi hz0 hz1 .i64 .i64 _ _ n rfl rfl rfl rfl (by rw [hz2]; omega) (by unfold maxLen; omega) (Nat.le_refl _) ?_; intro w1 hown1 hgrow1))
  go_loopw [4] (fun i wr => ∃ k : Nat, k ≤ n ∧ i = .int .i64 k ∧ wr.rowIs w.heap.size 124 (n * 2) (pairCell (pairsTo k l)) ∧ Below w.heap.size w wr)
    (fun i _ => n - (intOf i).toNat)
  case atStart => exact ⟨0, Nat.zero_le _, rfl, (row_of_own hown1).congr (fun j hj => made_pairs n j hj), (Below.refl _ _).grown hgrow1 (Nat.le_refl _) (by simp)⟩
  case round =>
    obtain ⟨k, hk, rfl, hrow, hbel⟩ := hrel
    clear hown1 hgrow1
    by_cases hlt : k < n
    · obtain ⟨b, off, rfl, h1, h2⟩ := hz k (by rw [HL.out]; omega)
      have hb := World.block_lt_of_cell? w _ h1
      have c1 := (hbel.cell (p := ⟨b, off + k * 2, none⟩) hb).trans h1
      have c2 := (hbel.cell (p := ⟨b, off + k * 2 + 1, none⟩) hb).trans h2
      clear h1 h2
      go_wp2_with (first | (go_at_call 135; refine (toCabin_any _ _ _).mono ?_; rintro e w2 ⟨rfl, hb2⟩; have hr2 := hrow.of_block (hb2.block _ hrow.lt); have o1 := hr2.cell (i := k * 2) (by omega); have o2 := hr2.cell (i := k * 2 + 1) (by omega); have f1 := hr2.frozen (k * 2); have f2 := hr2.frozen (k * 2 + 1)))
      go_roundw
      case rel =>
        refine ⟨k + 1, by omega, by go_num, ?_, ?_⟩
        · have := pair_set (k := k) (p' := pairsTo (k + 1) l) hr2 (fun i h => upto_step _ _ _ _ h) (fun i h => upto_step _ _ _ _ h)
          simp only [pairsTo, upto_lt _ _ (Nat.lt_succ_self k)] at this
          exact this
        · exact ((after hbel hb2).setCell (Nat.le_refl _) _).setCell (Nat.le_refl _) _
      case measure => simp [intOf]; omega
    · go_wp2
      go_ret
      exact ⟨_, rfl, Nat.le_refl _, hrow.congr (fun j hj => by unfold pairCell pairsTo; simp only; rw [upto_lt _ _ (by omega), upto_lt _ _ (by omega)]), hbel⟩
theorem eqCabinS_same (ao bo : Option Addr) (n c1 c2 : Nat) (l : Pairs) (w : World) (hl : l.n = n) (hn : n ≤ 1048576) (hx : PairsAt w ao l) (hy : PairsAt w bo l) :
    Calls Tryz.prog 129 #[.slice ao n c1, .slice bo n c2] w fun e w' => e = .returned (.bool true) ∧ Below w.heap.size w w' := by
  have HL : Hid (l.n = n) := hl
  clear hl
  go_enter Tryz.func129, Tryz.ntmps129
  go_wp2
  go_loopw [5] (fun i wr => ∃ k : Nat, k ≤ n ∧ i = .int .i64 k ∧ Below w.heap.size w wr) (fun i _ => n - (intOf i).toNat)
  case atStart => exact ⟨0, Nat.zero_le _, rfl, Below.refl _ _⟩
  case round =>
    obtain ⟨k, hk, rfl, hbel⟩ := hrel
    by_cases hlt : k < n
    · obtain ⟨b, off, rfl, h1, h2⟩ := hx k (by rw [HL.out]; omega)
      obtain ⟨b2, off2, rfl, g1, g2⟩ := hy k (by rw [HL.out]; omega)
      have hb := World.block_lt_of_cell? w _ h1
      have hb2 := World.block_lt_of_cell? w _ g1
      have c1 := (hbel.cell (p := ⟨b, off + k * 2, none⟩) hb).trans h1
      have c2 := (hbel.cell (p := ⟨b, off + k * 2 + 1, none⟩) hb).trans h2
      have d1 := (hbel.cell (p := ⟨b2, off2 + k * 2, none⟩) hb2).trans g1
      have d2 := (hbel.cell (p := ⟨b2, off2 + k * 2 + 1, none⟩) hb2).trans g2
      clear h1 h2 g1 g2
      have hbw : b < wr.heap.size := Nat.lt_of_lt_of_le hb hbel.size
      have hbw2 : b2 < wr.heap.size := Nat.lt_of_lt_of_le hb2 hbel.size
      have i1 : (0 : Int) ≤ (k : Int) := by omega
      have i2 : (k : Int) < (n : Int) := by omega
      go_wp2
      go_region_held3 (fun w' => w'.cell? ⟨b, off + k * 2, none⟩ = some (.int .i64 (l.A k)) ∧ w'.cell? ⟨b, off + k * 2 + 1, none⟩ = some (.int .i64 (l.B k)) ∧ w'.cell? ⟨b2, off2 + k * 2, none⟩ = some (.int .i64 (l.A k)) ∧ w'.cell? ⟨b2, off2 + k * 2 + 1, none⟩ = some (.int .i64 (l.B k)))
        (first | exact ⟨c1, c2, d1, d2⟩ | exact ⟨(hbb.cell hbw).trans c1, (hbb.cell hbw).trans c2, (hbb.cell hbw2).trans d1, (hbb.cell hbw2).trans d2⟩)
        (first | (go_at_call 161; refine (eqCabin_same _ _ _).mono ?_; rintro e w2 ⟨rfl, hbb⟩))
      go_wp2
      go_roundw
      case rel => exact ⟨k + 1, by omega, by go_num, after hbel.drew hbb⟩
      case measure => simp [intOf]; omega
    · go_wp2
      go_ret
      exact ⟨rfl, hbel⟩
theorem szCabinS_any (ao : Option Addr) (n c : Nat) (L : Int) (w : World) (h0 : 0 ≤ L) (hL : L ≤ 1048576) (hn : n ≤ 1000000000000000) :
    Calls Tryz.prog 83 #[.slice ao n c, .int .i64 L] w fun e w' => ∃ r : Int, e = .returned (.int .i64 r) ∧ (r = -1 ∨ (0 ≤ r ∧ r ≤ L ∧ n ≤ 1048576)) ∧ Below w.heap.size w w' := by
  by_cases h : (n : Int) ≤ L
  · go_enter Tryz.func83, Tryz.ntmps83
    go_wp2
    go_ret
    exact ⟨_, rfl, .inr ⟨by omega, by omega, by omega⟩, Below.refl _ _⟩
  · go_enter Tryz.func83, Tryz.ntmps83
    go_wp2
    go_ret
    exact ⟨_, rfl, .inl rfl, Below.refl _ _⟩
end Go.Proofs.YtlelckbeoclhbaaGreat

namespace Go.Proofs.YtlelckbeoclhbaaGreat
open Go.RowKit
theorem szSailing_any (x d a mo : Int) (fr tt : ByteArray) (lo co : Option Addr) (n m c1 c2 : Nat) (L : Int) (w : World) (h0 : 0 ≤ L) (hL : L ≤ 1048576) (hf : fr.size ≤ 1000000000000000) (ht : tt.size ≤ 1000000000000000) (hn : n ≤ 1000000000000000) (hm : m ≤ 1000000000000000) :
    Calls Tryz.prog 45 #[.agg #[.int .i64 x, .string fr, .string tt, .int .i64 d, .int .i64 a, .slice lo n c1, .slice co m c2, .int .i64 mo], .int .i64 L] w fun e w' => ∃ r : Int, e = .returned (.int .i64 r) ∧ (r = -1 ∨ (0 ≤ r ∧ r ≤ L ∧ fr.size ≤ 1048576 ∧ tt.size ≤ 1048576 ∧ n ≤ 1048576 ∧ m ≤ 1048576)) ∧ Below w.heap.size w w' := by
  have hb0 : Below w.heap.size w (w.alloc (.cells #[.int .i64 x, .string fr, .string tt, .int .i64 d, .int .i64 a, .slice lo n c1, .slice co m c2, .int .i64 mo] 95)) := push (Below.refl _ _) _
  have hA0 := heap_alloc_new w (.cells #[.int .i64 x, .string fr, .string tt, .int .i64 d, .int .i64 a, .slice lo n c1, .slice co m c2, .int .i64 mo] 95)
  by_cases g1 : (fr.size : Int) ≤ L
  · by_cases g2 : (tt.size : Int) ≤ L - fr.size
    · have e1 : decide (L - (fr.size : Int) < 0) = false := by simp; omega
      have e2 : decide (L - (fr.size : Int) - (tt.size : Int) < 0) = false := by simp; omega
      go_enter Tryz.func45, Tryz.ntmps45
      go_wp2_with fail
      refine (szLaneS_any lo n c1 (L - fr.size - tt.size) _ (by omega) (by omega) hn).mono ?_
      rintro e w1 ⟨r, rfl, hr, hb1⟩
      have hA1 := blk_below hA0 hb1
      have hb2 := after hb0 hb1
      clear hA0 hb0 hb1 e1 e2
      rcases hr with rfl | ⟨r0, r1, r2⟩
      · go_wp2
        go_ret
        exact ⟨_, rfl, .inl rfl, hb2⟩
      · have q := blk_cell hA1 6 _ rfl
        have d0 : decide (r < 0) = false := by simpa using r0
        go_wp2_with fail
        refine (szCabinS_any co m c2 r _ r0 (by omega) hm).mono ?_
        rintro e w2 ⟨s, rfl, hs, hb3⟩
        rcases hs with rfl | ⟨s0, s1, s2⟩
        · go_wp2
          go_ret
          exact ⟨_, rfl, .inl rfl, after hb2 hb3⟩
        · have d1 : decide (s < 0) = false := by simpa using s0
          go_wp2
          go_ret
          exact ⟨_, rfl, .inr ⟨s0, by omega, by omega, by omega, r2, s2⟩, after hb2 hb3⟩
    · have e1 : decide (L - (fr.size : Int) < 0) = false := by simp; omega
      have e2 : decide (L - (fr.size : Int) - (tt.size : Int) < 0) = true := by simp; omega
      go_enter Tryz.func45, Tryz.ntmps45
      go_wp2
      go_ret
      exact ⟨_, rfl, .inl rfl, hb0⟩
  · have e1 : decide (L - (fr.size : Int) < 0) = true := by simp; omega
    go_enter Tryz.func45, Tryz.ntmps45
    go_wp2
    go_ret
    exact ⟨_, rfl, .inl rfl, hb0⟩
theorem toSailing_any (x d a mo : Int) (fr tt : ByteArray) (lo co : Option Addr) (n m c1 c2 : Nat) (l1 l2 : Pairs) (w : World) (e1 : l1.n = n) (e2 : l2.n = m) (hn : n ≤ 1048576) (hm : m ≤ 1048576) (hx : PairsAt w lo l1) (hy : PairsAt w co l2) :
    Calls Tryz.prog 58 #[.agg #[.int .i64 x, .string fr, .string tt, .int .i64 d, .int .i64 a, .slice lo n c1, .slice co m c2, .int .i64 mo]] w fun e w' => ∃ p q, e = .returned (.agg #[.int .i64 x, .string fr, .string tt, .int .i64 d, .int .i64 a, .slice (some ⟨p, 0, none⟩) n n, .slice (some ⟨q, 0, none⟩) m m, .int .i64 mo]) ∧ w.heap.size ≤ p ∧ p < q ∧
      w'.rowIs p 122 (n * 2) (pairCell l1) ∧ w'.rowIs q 124 (m * 2) (pairCell l2) ∧ Below w.heap.size w w' := by
  have E1 : Hid (l1.n = n) := e1
  have E2 : Hid (l2.n = m) := e2
  clear e1 e2
  go_enter Tryz.func58, Tryz.ntmps58
  go_wp2_with fail
  obtain ⟨W0, hW0⟩ : ∃ W, W = (((w.alloc (.cells #[.int .i64 x, .string fr, .string tt, .int .i64 d, .int .i64 a, .slice lo n c1, .slice co m c2, .int .i64 mo] 95)).alloc (.cells #[.int .i64 0, .string ⟨#[]⟩, .string ⟨#[]⟩, .int .i64 0, .int .i64 0, .slice none 0 0, .slice none 0 0, .int .i64 0] 54)).alloc (.cells #[.int .i64 x, .string fr, .string tt, .int .i64 d, .int .i64 a, .slice none 0 0, .slice none 0 0, .int .i64 0] 54)) := ⟨_, rfl⟩
  have h0 : Below w.heap.size w W0 := by rw [hW0]; exact push (push (push (Below.refl _ _) _) _) _
  have A0 : W0.heap[w.heap.size]? = some (.cells #[.int .i64 x, .string fr, .string tt, .int .i64 d, .int .i64 a, .slice lo n c1, .slice co m c2, .int .i64 mo] 95 (0, 0)) := by rw [hW0]; exact blk_alloc (blk_alloc (heap_alloc_new w _) _) _
  have R0 : W0.heap[w.heap.size + 1]? = some (.cells #[.int .i64 0, .string ⟨#[]⟩, .string ⟨#[]⟩, .int .i64 0, .int .i64 0, .slice none 0 0, .slice none 0 0, .int .i64 0] 54 (0, 0)) := by rw [hW0]; exact blk_alloc (by simpa using heap_alloc_new (w.alloc _) _) _
  have O0 : W0.heap[w.heap.size + 1 + 1]? = some (.cells #[.int .i64 x, .string fr, .string tt, .int .i64 d, .int .i64 a, .slice none 0 0, .slice none 0 0, .int .i64 0] 54 (0, 0)) := by rw [hW0]; simpa using heap_alloc_new ((w.alloc _).alloc _) _
  rw [← hW0]
  clear hW0
  refine (toLaneS_any lo n c1 l1 _ E1.out hn (hx.below h0)).mono ?_
  rintro e w1 ⟨g, rfl, hg, hrow, hb1⟩
  have A1 := blk_below A0 hb1
  have R1 := blk_below R0 hb1
  have O1 := blk_below O0 hb1
  have hbw := after h0 hb1
  have hgl : w.heap.size + 1 + 1 < g := by have := blk_lt O0; omega
  clear h0 A0 R0 O0 hb1 hg
  have q1 := blk_cell A1 6 _ rfl
  have q2 := blk_cell O1 5 _ rfl
  have q3 := blk_free O1 5
  go_wp2_with fail
  obtain ⟨W, hW⟩ : ∃ W, W = w1.setCell ⟨w.heap.size + 1 + 1, 5, none⟩ (.slice (some ⟨g, 0, none⟩) n n) := ⟨_, rfl⟩
  have A2 : W.heap[w.heap.size]? = some (.cells #[.int .i64 x, .string fr, .string tt, .int .i64 d, .int .i64 a, .slice lo n c1, .slice co m c2, .int .i64 mo] 95 (0, 0)) := by rw [hW]; exact blk_set_other A1 _ _ (by omega)
  have r2 : W.heap[w.heap.size + 1]? = some (.cells #[.int .i64 0, .string ⟨#[]⟩, .string ⟨#[]⟩, .int .i64 0, .int .i64 0, .slice none 0 0, .slice none 0 0, .int .i64 0] 54 (0, 0)) := by rw [hW]; exact blk_set_other R1 _ _ (by omega)
  have o2 : W.heap[w.heap.size + 1 + 1]? = some (.cells #[.int .i64 x, .string fr, .string tt, .int .i64 d, .int .i64 a, .slice (some ⟨g, 0, none⟩) n n, .slice none 0 0, .int .i64 0] 54 (0, 0)) := by rw [hW]; exact blk_set O1 5 _
  have hrow2 : W.rowIs g 122 (n * 2) (pairCell l1) := by rw [hW]; exact hrow.setOther (by show g ≠ w.heap.size + 1 + 1; omega) _
  have hbW : Below w.heap.size w W := by rw [hW]; exact hbw.setCell (by show w.heap.size ≤ w.heap.size + 1 + 1; omega) _
  rw [← hW]
  clear hW q1 q2 q3 hrow hbw A1 R1 O1
  refine (toCabinS_any co m c2 l2 _ E2.out hm (hy.below hbW)).mono ?_
  rintro e w2 ⟨g2, rfl, hg2, hrow3, hb2⟩
  have A3 := blk_below A2 hb2
  have r3 := blk_below r2 hb2
  have o3 := blk_below o2 hb2
  have hrow4 := row_below hrow2 hb2
  have hbw2 := after hbW hb2
  have hne : g < g2 := by have := hrow2.lt; omega
  clear hb2 r2 o2 hrow2 hbW hg2 A2
  have qa := blk_cell A3 7 _ rfl
  have q0 := blk_cell o3 0 _ rfl
  have q1 := blk_cell o3 1 _ rfl
  have q2 := blk_cell o3 2 _ rfl
  have q3 := blk_cell o3 3 _ rfl
  have q4 := blk_cell o3 4 _ rfl
  have q5 := blk_cell o3 5 _ rfl
  have q6 := blk_cell o3 6 _ rfl
  have q7 := blk_cell o3 7 _ rfl
  have f6 := blk_free o3 6
  have f7 := blk_free o3 7
  have z0 := blk_free r3 0
  have z1 := blk_free r3 1
  have z2 := blk_free r3 2
  have z3 := blk_free r3 3
  have z4 := blk_free r3 4
  have z5 := blk_free r3 5
  have z6 := blk_free r3 6
  have z7 := blk_free r3 7
  have y0 := blk_cell r3 0 _ rfl
  have y1 := blk_cell r3 1 _ rfl
  have y2 := blk_cell r3 2 _ rfl
  have y3 := blk_cell r3 3 _ rfl
  have y4 := blk_cell r3 4 _ rfl
  have y5 := blk_cell r3 5 _ rfl
  have y6 := blk_cell r3 6 _ rfl
  have y7 := blk_cell r3 7 _ rfl
  go_wp2
  clear qa q0 q1 q2 q3 q4 q5 q6 q7 f6 f7 z0 z1 z2 z3 z4 z5 z6 z7 y0 y1 y2 y3 y4 y5 y6 y7
  obtain ⟨V, hV⟩ : ∃ V, V = (w2.setCell ⟨w.heap.size + 1 + 1, 6, none⟩ (.slice (some ⟨g2, 0, none⟩) m m)).setCell ⟨w.heap.size + 1 + 1, 7, none⟩ (.int .i64 mo) := ⟨_, rfl⟩
  have rV : V.heap[w.heap.size + 1]? = some (.cells #[.int .i64 0, .string ⟨#[]⟩, .string ⟨#[]⟩, .int .i64 0, .int .i64 0, .slice none 0 0, .slice none 0 0, .int .i64 0] 54 (0, 0)) := by rw [hV]; exact blk_set_other (blk_set_other r3 _ _ (by omega)) _ _ (by omega)
  have hV3 : V.rowIs g 122 (n * 2) (pairCell l1) := by rw [hV]; exact (hrow4.setOther (by show g ≠ w.heap.size + 1 + 1; omega) _).setOther (by show g ≠ w.heap.size + 1 + 1; omega) _
  have hV4 : V.rowIs g2 124 (m * 2) (pairCell l2) := by rw [hV]; exact (hrow3.setOther (by show g2 ≠ w.heap.size + 1 + 1; omega) _).setOther (by show g2 ≠ w.heap.size + 1 + 1; omega) _
  have hVb : Below w.heap.size w V := by rw [hV]; exact (hbw2.setCell (by show w.heap.size ≤ w.heap.size + 1 + 1; omega) _).setCell (by show w.heap.size ≤ w.heap.size + 1 + 1; omega) _
  rw [← hV]
  obtain ⟨F, hF⟩ : ∃ F, F = set8 V (w.heap.size + 1) 0 (.int .i64 x) (.string fr) (.string tt) (.int .i64 d) (.int .i64 a) (.slice (some ⟨g, 0, none⟩) n n) (.slice (some ⟨g2, 0, none⟩) m m) (.int .i64 mo) := ⟨_, rfl⟩
  have rF := set8_blk (v0 := .int .i64 x) (v1 := .string fr) (v2 := .string tt) (v3 := .int .i64 d) (v4 := .int .i64 a) (v5 := .slice (some ⟨g, 0, none⟩) n n) (v6 := .slice (some ⟨g2, 0, none⟩) m m) (v7 := .int .i64 mo) rV
  rw [← hF] at rF
  have hF3 : F.rowIs g 122 (n * 2) (pairCell l1) := by rw [hF]; exact set8_row hV3 (by omega)
  have hF4 : F.rowIs g2 124 (m * 2) (pairCell l2) := by rw [hF]; exact set8_row hV4 (by omega)
  have hFb : Below w.heap.size w F := by rw [hF]; exact set8_below hVb (by omega)
  have hF' : F = (((((((V.setCell ⟨w.heap.size + 1, 0, none⟩ (.int .i64 x)).setCell ⟨w.heap.size + 1, 1, none⟩ (.string fr)).setCell ⟨w.heap.size + 1, 2, none⟩ (.string tt)).setCell ⟨w.heap.size + 1, 3, none⟩ (.int .i64 d)).setCell ⟨w.heap.size + 1, 4, none⟩ (.int .i64 a)).setCell ⟨w.heap.size + 1, 5, none⟩ (.slice (some ⟨g, 0, none⟩) n n)).setCell ⟨w.heap.size + 1, 6, none⟩ (.slice (some ⟨g2, 0, none⟩) m m)).setCell ⟨w.heap.size + 1, 7, none⟩ (.int .i64 mo) := by rw [hF]; unfold set8; rfl
  rw [← hF']
  clear hF hF' hV rV hV3 hV4 hVb
  have z0 := blk_cell rF 0 _ rfl
  have z1 := blk_cell rF 1 _ rfl
  have z2 := blk_cell rF 2 _ rfl
  have z3 := blk_cell rF 3 _ rfl
  have z4 := blk_cell rF 4 _ rfl
  have z5 := blk_cell rF 5 _ rfl
  have z6 := blk_cell rF 6 _ rfl
  have z7 := blk_cell rF 7 _ rfl
  exact bodyPost_ret (v := .agg #[.int .i64 x, .string fr, .string tt, .int .i64 d, .int .i64 a, .slice (some ⟨g, 0, none⟩) n n, .slice (some ⟨g2, 0, none⟩) m m, .int .i64 mo]) (by simp [results, Tryz.results58, go_sem, z0, z1, z2, z3, z4, z5, z6, z7]) rfl ⟨g, g2, rfl, by omega, hne, hF3, hF4, hFb⟩
theorem eqSailing_same (x d a mo : Int) (fr tt : ByteArray) (lo co lo' co' : Option Addr) (n m c1 c2 c3 c4 : Nat) (l1 l2 : Pairs) (w : World) (e1 : l1.n = n) (e2 : l2.n = m) (hn : n ≤ 1048576) (hm : m ≤ 1048576)
    (hx : PairsAt w lo l1) (hy : PairsAt w co l2) (hx' : PairsAt w lo' l1) (hy' : PairsAt w co' l2) :
    Calls Tryz.prog 72 #[.agg #[.int .i64 x, .string fr, .string tt, .int .i64 d, .int .i64 a, .slice lo n c1, .slice co m c2, .int .i64 mo], .agg #[.int .i64 x, .string fr, .string tt, .int .i64 d, .int .i64 a, .slice lo' n c3, .slice co' m c4, .int .i64 mo]] w fun e w' => e = .returned (.bool true) ∧ Below w.heap.size w w' := by
  have E1 : Hid (l1.n = n) := e1
  have E2 : Hid (l2.n = m) := e2
  clear e1 e2
  have h0 : Below w.heap.size w ((w.alloc (.cells #[.int .i64 x, .string fr, .string tt, .int .i64 d, .int .i64 a, .slice lo n c1, .slice co m c2, .int .i64 mo] 54)).alloc (.cells #[.int .i64 x, .string fr, .string tt, .int .i64 d, .int .i64 a, .slice lo' n c3, .slice co' m c4, .int .i64 mo] 54)) := push (push (Below.refl _ _) _) _
  go_enter Tryz.func72, Tryz.ntmps72
  go_wp2_with fail
  refine (eqLaneS_same lo lo' n c1 c3 l1 _ E1.out hn (hx.below h0) (hx'.below h0)).mono ?_
  rintro e w1 ⟨rfl, hb1⟩
  have a1 : w1.heap[w.heap.size]? = some (.cells #[.int .i64 x, .string fr, .string tt, .int .i64 d, .int .i64 a, .slice lo n c1, .slice co m c2, .int .i64 mo] 54 (0, 0)) := blk_below (blk_alloc (heap_alloc_new w _) _) hb1
  have r1 : w1.heap[w.heap.size + 1]? = some (.cells #[.int .i64 x, .string fr, .string tt, .int .i64 d, .int .i64 a, .slice lo' n c3, .slice co' m c4, .int .i64 mo] 54 (0, 0)) := blk_below (by simpa using heap_alloc_new (w.alloc _) _) hb1
  have hb2 := after h0 hb1
  clear h0 hb1
  have q1 := blk_cell a1 6 _ rfl
  have q2 := blk_cell r1 6 _ rfl
  have q3 := blk_cell a1 7 _ rfl
  have q4 := blk_cell r1 7 _ rfl
  go_wp2_with fail
  refine (eqCabinS_same co co' m c2 c4 l2 _ E2.out hm (hy.below hb2) (hy'.below hb2)).mono ?_
  rintro e w2 ⟨rfl, hb3⟩
  have q5 := blk_cell (blk_below a1 hb3) 7 _ rfl
  have q6 := blk_cell (blk_below r1 hb3) 7 _ rfl
  clear q1 q2 q3 q4 a1 r1
  go_wp2
  go_ret
  exact ⟨rfl, after hb2 hb3⟩
end Go.Proofs.YtlelckbeoclhbaaGreat
