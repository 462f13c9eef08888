/-
  OWN TEXT: SpecDg, SpecDo, KitOq, SpecOp, SpecBk.
-/
import Derived.Deep.DeepCutAuto
import Derived.Deep.RegionLawGrows
import Derived.Deep.AppendLies
import Derived.Deep.RegionHeld3
import Derived.Great.Walk
import Derived.Deep.LoopGhost
import Derived.Test.YtfallpinmhbemaaGreatDoorB24
import Derived.Test.YtfallpinmhbemaaGreatDoorB10
import Derived.Test.YtfallpinmhbemaaGreatDoorB07
import Derived.Test.YtfallpinmhbemaaGreatDoorB06
import Derived.Test.YtfallpinmhbemaaGreatDoorB25
import Derived.Test.YtfallpinmhbemaaGreatDoorB09
import Derived.Test.YtfallpinmhbemaaGreatDoorB16
import Derived.Test.YtfallpinmhbemaaGreatDoorB12
namespace Go.Proofs.YtfallpinmhbemaaGreatDoor
open Go.RowKit

set_option maxHeartbeats 25600000 in
set_option maxRecDepth 100000 in
theorem l7Do_g (g base N R k csa cld cbk : Nat) (asa ald abk : Option Addr) (leg who : Int) (p : Party) (x : Off) (L C A B D E : Nat → Value) (w : World) (hq : w.heap[g]? = some (.cells #[.slice asa N csa, .slice ald N cld, .slice abk R cbk] 66 (0, 0))) (ho : OwnOff w base (.slice asa N csa) (.slice ald N cld) (.slice abk R cbk) N N R x L C A B D E) (hN : N ≤ 1048576) (hk : findIx x.sa leg N = k) (hlt : k < N) (hok : LoadOk (x.sa k) (x.ld k)) (hp : In p.pe 0 20) :
    Calls Tryz.prog 122 #[.pointer (some ⟨g, 0, none⟩), .agg #[.int .i64 leg, .int .i64 2, .bool false, .int .i64 who, .int .i64 p.pe, .int .i64 p.len, .int .i64 p.hei, .int .i64 p.cl, .bool p.all, .int .i64 p.be]] w fun e w' => DoAns g base N R k csa cld cbk asa ald abk ⟨leg, 2, false, who, p⟩ x L C E w e w' := by
  obtain ⟨i0, ii, iz0, iz1, iz2⟩ := info_parts Tryz.infoSeat
  obtain ⟨gl, rfl, hbg, hlg⟩ := own_addr ho.ld.row (by omega)
  have HO : Hid (OwnOff w base (.slice asa N csa) (.slice (some ⟨gl, 0, none⟩) N cld) (.slice abk R cbk) N N R x L C A B D E) := ho
  have HK : Hid (findIx x.sa leg N = k) := hk
  have HOK : Hid (LoadOk (x.sa k) (x.ld k)) := hok
  have HBG : Hid (base ≤ w.heap.size) := by show base ≤ w.heap.size; omega
  have HQ : Hid (w.heap[g]? = some (.cells #[.slice asa N csa, .slice (some ⟨gl, 0, none⟩) N cld, .slice abk R cbk] 66 (0, 0))) := hq
  have HSAt : Hid (SailsAt w asa N x.sa) := ho.sa.at
  obtain ⟨cs, hgl⟩ := own_blockE ho.ld.row gl rfl
  obtain ⟨ast, cst, eA, m1, m2, m3⟩ := own_form (ho.ld.st k hlt)
  obtain ⟨aro, cro, eB, m4, m5, m6⟩ := own_form (ho.ld.ro k hlt)
  obtain ⟨ase, cse, eD, m7, m8, m9⟩ := own_form (ho.ld.se k hlt)
  have HST : Hid (w.ownsRow base 186 4 (.slice ast (x.ld k).stn cst) (x.ld k).stn (stayList (x.ld k).st (x.ld k).stn)) := by show w.ownsRow _ _ _ _ _ _; rw [← eA]; exact ho.ld.st k hlt
  have HRO : Hid (w.ownsRow base 190 4 (.slice aro (x.ld k).ron cro) (x.ld k).ron (roomList (x.ld k).ro (x.ld k).ron)) := by show w.ownsRow _ _ _ _ _ _; rw [← eB]; exact ho.ld.ro k hlt
  have HSE : Hid (w.ownsRow base 138 2 (.slice ase (x.ld k).sen cse) (x.ld k).sen (seatList (x.ld k).se (x.ld k).sen)) := by show w.ownsRow _ _ _ _ _ _; rw [← eD]; exact ho.ld.se k hlt
  have HL0 : Hid (w.cell? ⟨gl, k * 3, none⟩ = some (.slice ast (x.ld k).stn cst)) := by
    have h := own_cell ho.ld.row (k * 3 + 0) (by omega) rfl
    rw [recCell_at 3 _ k 0 (by decide)] at h
    rw [← eA]
    exact h
  have HL1 : Hid (w.cell? ⟨gl, k * 3 + 1, none⟩ = some (.slice aro (x.ld k).ron cro)) := by
    have h := own_cell ho.ld.row (k * 3 + 1) (by omega) rfl
    rw [recCell_at 3 _ k 1 (by decide)] at h
    rw [← eB]
    exact h
  have HL2 : Hid (w.cell? ⟨gl, k * 3 + 2, none⟩ = some (.slice ase (x.ld k).sen cse)) := by
    have h := own_cell ho.ld.row (k * 3 + 2) (by omega) rfl
    rw [recCell_at 3 _ k 2 (by decide)] at h
    rw [← eD]
    exact h
  have HNI : Hid ((ast = none → (x.ld k).stn = 0 ∧ cst = 0) ∧ (aro = none → (x.ld k).ron = 0 ∧ cro = 0) ∧ (ase = none → (x.ld k).sen = 0 ∧ cse = 0)) := ⟨m3, m6, m9⟩
  obtain ⟨s, hsd⟩ : ∃ s, s = x.sa k := ⟨_, rfl⟩
  obtain ⟨l, hld⟩ : ∃ l, l = x.ld k := ⟨_, rfl⟩
  rw [← hld] at HST HRO HSE HL0 HL1 HL2 HNI HOK
  rw [← hsd] at HOK
  have HSD : Hid (s = x.sa k) := hsd
  have HLD : Hid (l = x.ld k) := hld
  have HGL : Hid (w.heap[gl]? = some (.cells cs 136 (0, 0))) := hgl
  obtain ⟨sb0, so, la, lc, ca, cc, rfl, f0, f1, f2, f3, f4, f5, f6, f7, hla, hca, sla, sca⟩ := HSAt.out k hlt
  rw [← hsd] at f0 f1 f2 f3 f4 f5 f6 f7 hla hca sla sca
  have HPL : Hid (PairsAt w la s.la ∧ PairsAt w ca s.ca) := ⟨hla, hca⟩
  have HCS : Hid (∀ W, Below w.heap.size w W → W.cell? ⟨sb0, so + k * 8, none⟩ = some (.int .i64 s.id) ∧ W.cell? ⟨sb0, so + k * 8 + 1, none⟩ = some (.string s.fr) ∧ W.cell? ⟨sb0, so + k * 8 + 2, none⟩ = some (.string s.dst) ∧ W.cell? ⟨sb0, so + k * 8 + 3, none⟩ = some (.int .i64 s.dep) ∧ W.cell? ⟨sb0, so + k * 8 + 4, none⟩ = some (.int .i64 s.arr) ∧ W.cell? ⟨sb0, so + k * 8 + 5, none⟩ = some (.slice la s.la.n lc) ∧ W.cell? ⟨sb0, so + k * 8 + 6, none⟩ = some (.slice ca s.ca.n cc) ∧ W.cell? ⟨sb0, so + k * 8 + 7, none⟩ = some (.int .i64 s.most)) := fun W hb => by
    have lsb := World.block_lt_of_cell? w _ f0
    exact ⟨(hb.cell (p := ⟨sb0, so + k * 8, none⟩) lsb).trans f0, (hb.cell (p := ⟨sb0, so + k * 8 + 1, none⟩) lsb).trans f1, (hb.cell (p := ⟨sb0, so + k * 8 + 2, none⟩) lsb).trans f2, (hb.cell (p := ⟨sb0, so + k * 8 + 3, none⟩) lsb).trans f3, (hb.cell (p := ⟨sb0, so + k * 8 + 4, none⟩) lsb).trans f4, (hb.cell (p := ⟨sb0, so + k * 8 + 5, none⟩) lsb).trans f5, (hb.cell (p := ⟨sb0, so + k * 8 + 6, none⟩) lsb).trans f6, (hb.cell (p := ⟨sb0, so + k * 8 + 7, none⟩) lsb).trans f7⟩
  clear f0 f1 f2 f3 f4 f5 f6 f7 hla hca sla sca hsd hld hgl eA eB eD m1 m2 m3 m4 m5 m6 m7 m8 m9 hok hk hbg
  have i1 : (0 : Int) ≤ (k : Int) := by omega
  have i2 : (k : Int) < (N : Int) := by omega
  have hb0 : Below w.heap.size w (w.alloc (.cells #[.int .i64 leg, .int .i64 2, .bool false, .int .i64 who, .int .i64 p.pe, .int .i64 p.len, .int .i64 p.hei, .int .i64 p.cl, .bool p.all, .int .i64 p.be] 175)) := push (Below.refl _ _) _
  have b0 := heap_alloc_new w (.cells #[.int .i64 leg, .int .i64 2, .bool false, .int .i64 who, .int .i64 p.pe, .int .i64 p.len, .int .i64 p.hei, .int .i64 p.cl, .bool p.all, .int .i64 p.be] 175)
  go_enter Tryz.func122, Tryz.ntmps122
  go_upto_region 1 with fail
  generalize (w.alloc (.cells #[.int .i64 leg, .int .i64 2, .bool false, .int .i64 who, .int .i64 p.pe, .int .i64 p.len, .int .i64 p.hei, .int .i64 p.cl, .bool p.all, .int .i64 p.be] 175)) = W at hb0 b0 ⊢
  have z0 : ∀ G : Grown W, G.val.cell? ⟨g, 0, none⟩ = some (.slice (some ⟨sb0, so, none⟩) N csa) := fun G => blk_cell (blk_below HQ.out (after hb0 G.bel)) 0 _ rfl
  have z1 : ∀ G : Grown W, G.val.cell? ⟨w.heap.size, 0, none⟩ = some (.int .i64 leg) := fun G => blk_cell (blk_below b0 G.bel) 0 _ rfl
  refine wp_region_grow (by kernel_rfl) (by kernel_rfl) ?_
  repeat (first | go_big_quiet_skip | (go_big_quiet_want; go_big_quiet_op; first | go_big_quiet_on | (apply Exists.intro; refine ⟨fun G => ?_, ?_⟩; (focus (first | (go_at_call 110; refine grown_call (v := .int .i64 (k : Int)) ((l3At_any _ N csa x.sa leg _ hN (HSAt.out.below (after hb0 G.bel))).mono ?_); rintro e w2 ⟨he, hb2⟩; refine ⟨?_, hb2⟩; rw [HK.out] at he; rcases he with ⟨_, rfl⟩ | ⟨h, _⟩; rfl; omega))); go_big_quiet_on)))
  refine wpQuiet_nil ?_
  rintro _ ⟨G, rfl⟩
  clear z0 z1
  have hbG := after hb0 G.bel
  have bW := blk_below b0 G.bel
  obtain ⟨c0, c1, c2, c3, c4, c5, c6, c7⟩ := HCS.out G.val hbG
  have y0 := blk_cell (blk_below HQ.out hbG) 0 _ rfl
  have y1 : ∀ o, (G.val.alloc o).cell? ⟨g, 1, none⟩ = some (.slice (some ⟨gl, 0, none⟩) N cld) := fun o => blk_cell (blk_below HQ.out (push hbG o)) 1 _ rfl
  have y4 : ∀ o, (G.val.alloc o).cell? ⟨w.heap.size, 4, none⟩ = some (.int .i64 p.pe) := fun o => blk_cell (blk_alloc bW o) 4 _ rfl
  have y5 : ∀ o, (G.val.alloc o).cell? ⟨w.heap.size, 5, none⟩ = some (.int .i64 p.len) := fun o => blk_cell (blk_alloc bW o) 5 _ rfl
  have y6 : ∀ o, (G.val.alloc o).cell? ⟨w.heap.size, 6, none⟩ = some (.int .i64 p.hei) := fun o => blk_cell (blk_alloc bW o) 6 _ rfl
  have y7 : ∀ o, (G.val.alloc o).cell? ⟨w.heap.size, 7, none⟩ = some (.int .i64 p.cl) := fun o => blk_cell (blk_alloc bW o) 7 _ rfl
  have y8 : ∀ o, (G.val.alloc o).cell? ⟨w.heap.size, 8, none⟩ = some (.bool p.all) := fun o => blk_cell (blk_alloc bW o) 8 _ rfl
  have y9 : ∀ o, (G.val.alloc o).cell? ⟨w.heap.size, 9, none⟩ = some (.int .i64 p.be) := fun o => blk_cell (blk_alloc bW o) 9 _ rfl
  go_upto_region 8 with fail
  have hbX : Below w.heap.size w ((G.val.alloc (.cells #[.int .i64 s.id, .string s.fr, .string s.dst, .int .i64 s.dep, .int .i64 s.arr, .slice la s.la.n lc, .slice ca s.ca.n cc, .int .i64 s.most] 37)).alloc (.cells #[.int .i64 p.pe, .int .i64 p.len, .int .i64 p.hei, .int .i64 p.cl, .bool p.all, .int .i64 p.be] 25)) := push (push hbG _) _
  have bWX := blk_alloc (blk_alloc bW (.cells #[.int .i64 s.id, .string s.fr, .string s.dst, .int .i64 s.dep, .int .i64 s.arr, .slice la s.la.n lc, .slice ca s.ca.n cc, .int .i64 s.most] 37)) (.cells #[.int .i64 p.pe, .int .i64 p.len, .int .i64 p.hei, .int .i64 p.cl, .bool p.all, .int .i64 p.be] 25)
  have bSX := blk_alloc (heap_alloc_new G.val (.cells #[.int .i64 s.id, .string s.fr, .string s.dst, .int .i64 s.dep, .int .i64 s.arr, .slice la s.la.n lc, .slice ca s.ca.n cc, .int .i64 s.most] 37)) (.cells #[.int .i64 p.pe, .int .i64 p.len, .int .i64 p.hei, .int .i64 p.cl, .bool p.all, .int .i64 p.be] 25)
  have bPX := new2 G.val (.cells #[.int .i64 s.id, .string s.fr, .string s.dst, .int .i64 s.dep, .int .i64 s.arr, .slice la s.la.n lc, .slice ca s.ca.n cc, .int .i64 s.most] 37) (.cells #[.int .i64 p.pe, .int .i64 p.len, .int .i64 p.hei, .int .i64 p.cl, .bool p.all, .int .i64 p.be] 25)
  generalize hx0 : (G.val.alloc (.cells #[.int .i64 s.id, .string s.fr, .string s.dst, .int .i64 s.dep, .int .i64 s.arr, .slice la s.la.n lc, .slice ca s.ca.n cc, .int .i64 s.most] 37)).alloc (.cells #[.int .i64 p.pe, .int .i64 p.len, .int .i64 p.hei, .int .i64 p.cl, .bool p.all, .int .i64 p.be] 25) = X at hbX bWX bSX bPX ⊢
  generalize hsb : G.val.heap.size = sb at bSX bPX ⊢
  clear c0 c1 c2 c3 c4 c5 c6 c7 y0 y1 y4 y5 y6 y7 y8 y9 bW hbG hb0 b0 hx0 hsb G W
  have w1 := blk_cell bWX 1 _ rfl
  have w2 := blk_cell bWX 2 _ rfl
  have w3 := blk_cell bWX 3 _ rfl
  have L0 : X.cell? ⟨gl, k * 3, none⟩ = some (.slice ast l.stn cst) := (hbX.cell (p := ⟨gl, k * 3, none⟩) hlg).trans HL0.out
  have L1 : X.cell? ⟨gl, k * 3 + 1, none⟩ = some (.slice aro l.ron cro) := (hbX.cell (p := ⟨gl, k * 3 + 1, none⟩) hlg).trans HL1.out
  have L2 : X.cell? ⟨gl, k * 3 + 2, none⟩ = some (.slice ase l.sen cse) := (hbX.cell (p := ⟨gl, k * 3 + 2, none⟩) hlg).trans HL2.out
  have bG := blk_below HGL.out hbX
  unfold In at hp
  have hn60 : l.sen ≤ 60 := HOK.out.2.2.2.1
  have hsb2 := sits_bounds l.se l.sen (fun j hj => (HOK.out.2.2.2.2.1 j hj).2.2)
  obtain ⟨q, hq0⟩ : ∃ q, q = sits l.se l.sen := ⟨_, rfl⟩
  rw [← hq0] at hsb2
  have HSQ : Hid (q = sits l.se l.sen) := hq0
  clear hq0
  have hw1 : IntKind.i64.wrap (q + p.pe) = q + p.pe := by rw [IntKind.wrap_i64]; omega
  have s6 : ∀ G : Grown X, G.val.cell? ⟨gl, k * 3 + 2, none⟩ = some (.slice ase l.sen cse) := fun G => (G.bel.cell (p := ⟨gl, k * 3 + 2, none⟩) (blk_lt bG)).trans L2
  have s7 : ∀ G : Grown X, G.val.cell? ⟨sb, 7, none⟩ = some (.int .i64 s.most) := fun G => blk_cell (blk_below bSX G.bel) 7 _ rfl
  have p0 : ∀ G : Grown X, G.val.cell? ⟨sb + 1, 0, none⟩ = some (.int .i64 p.pe) := fun G => blk_cell (blk_below bPX G.bel) 0 _ rfl
  go_upto_region 5 with fail
  by_cases h60 : l.sen = 60
  · have e60 : (l.sen == 60) = true := by simpa using h60
    have e61 : ((l.sen : Int) == 60) = true := by simp; omega
    have H60 : Hid (l.sen = 60) := h60
    clear h60
    refine wp_region_grow (by kernel_rfl) (by kernel_rfl) ?_
    repeat (first | go_big_quiet_skip | (go_big_quiet_want; go_big_quiet_op; first | go_big_quiet_on | (apply Exists.intro; refine ⟨fun G => ?_, ?_⟩; (focus (first | (go_at_call 136; refine grown_call (v := .int .i64 q) ((l5Seats_any ase l.sen cse l.se _ hn60 (fun j hj => (HOK.out.2.2.2.2.1 j hj).2.2) ((seats_of_own HSE.out).below (after hbX G.bel))).mono ?_); rintro e w2 ⟨rfl, hb2⟩; exact ⟨by rw [HSQ.out], hb2⟩))); go_big_quiet_on)))
    refine wpQuiet_nil ?_
    rintro _ ⟨G, rfl⟩
    have hbY := after hbX G.bel
    have bWY := blk_below bWX G.bel
    have bPY := blk_below bPX G.bel
    have bGY := blk_below bG G.bel
    clear w1 w2 w3 L0 L1 L2 s6 s7 p0
    generalize G.val = w5 at hbY bWY bPY bGY ⊢
    clear hbX bWX bSX bPX bG G X
    have HF : Hid _ := doNo (k := k) (code := 7) (v := ⟨leg, 2, false, who, p⟩) HO.out HQ.out hbY (by
      refine .seats rfl rfl ?_
      rw [← HSD.out, ← HLD.out]
      exact .inl H60.out)
    go_wp2
    go_ret
    exact HF.out
  have e60 : (l.sen == 60) = false := by simpa using h60
  have e61 : ((l.sen : Int) == 60) = false := by simp; omega
  have H60 : Hid (l.sen ≠ 60) := h60
  clear h60
  by_cases hm : s.most < q + p.pe
  · have d1 : decide (s.most < q + p.pe) = true := decide_eq_true hm
    have HM : Hid (s.most < q + p.pe) := hm
    clear hm
    refine wp_region_grow (by kernel_rfl) (by kernel_rfl) ?_
    repeat (first | go_big_quiet_skip | (go_big_quiet_want; go_big_quiet_op; first | go_big_quiet_on | (apply Exists.intro; refine ⟨fun G => ?_, ?_⟩; (focus (first | (go_at_call 136; refine grown_call (v := .int .i64 q) ((l5Seats_any ase l.sen cse l.se _ hn60 (fun j hj => (HOK.out.2.2.2.2.1 j hj).2.2) ((seats_of_own HSE.out).below (after hbX G.bel))).mono ?_); rintro e w2 ⟨rfl, hb2⟩; exact ⟨by rw [HSQ.out], hb2⟩))); go_big_quiet_on)))
    refine wpQuiet_nil ?_
    rintro _ ⟨G, rfl⟩
    have hbY := after hbX G.bel
    have bWY := blk_below bWX G.bel
    have bPY := blk_below bPX G.bel
    have bGY := blk_below bG G.bel
    clear w1 w2 w3 L0 L1 L2 s6 s7 p0
    generalize G.val = w5 at hbY bWY bPY bGY ⊢
    clear hbX bWX bSX bPX bG G X
    have HF : Hid _ := doNo (k := k) (code := 7) (v := ⟨leg, 2, false, who, p⟩) HO.out HQ.out hbY (by
      refine .seats rfl rfl ?_
      rw [← HSD.out, ← HLD.out]
      exact .inr (by rw [← HSQ.out]; exact HM.out))
    go_wp2
    go_ret
    exact HF.out
  have d1 : decide (s.most < q + p.pe) = false := decide_eq_false hm
  have HM : Hid (¬ s.most < q + p.pe) := hm
  clear hm
  refine wp_region_grow (by kernel_rfl) (by kernel_rfl) ?_
  repeat (first | go_big_quiet_skip | (go_big_quiet_want; go_big_quiet_op; first | go_big_quiet_on | (apply Exists.intro; refine ⟨fun G => ?_, ?_⟩; (focus (first | (go_at_call 136; refine grown_call (v := .int .i64 q) ((l5Seats_any ase l.sen cse l.se _ hn60 (fun j hj => (HOK.out.2.2.2.2.1 j hj).2.2) ((seats_of_own HSE.out).below (after hbX G.bel))).mono ?_); rintro e w2 ⟨rfl, hb2⟩; exact ⟨by rw [HSQ.out], hb2⟩))); go_big_quiet_on)))
  refine wpQuiet_nil ?_
  rintro _ ⟨G, rfl⟩
  have hbY := after hbX G.bel
  have bWY := blk_below bWX G.bel
  have bPY := blk_below bPX G.bel
  have bGY := blk_below bG G.bel
  clear w1 w2 w3 L0 L1 L2 s6 s7 p0
  generalize G.val = w5 at hbY bWY bPY bGY ⊢
  clear hbX bWX bSX bPX bG G X
  go_upto_region 7 with fail
  have HN : Hid (ase = none → l.sen = 0 ∧ cse = 0) := HNI.out.2.2
  have HLL : Hid (∀ z, Below w5.heap.size w5 z → SeatsAt z ase l.sen l.se) := fun z h => (seats_of_own HSE.out).below (after hbY h)
  have hn60 : l.sen ≤ 60 := HOK.out.2.2.2.1
  have LY0 : w5.cell? ⟨gl, k * 3 + 2, none⟩ = some (.slice ase l.sen cse) := (hbY.cell (p := ⟨gl, k * 3 + 2, none⟩) hlg).trans HL2.out
  have KS : Hid (∀ z, Below w5.heap.size w5 z → (z.cell? ⟨w.heap.size, 3, none⟩ = some (.int .i64 who) ∧ z.cell? ⟨sb + 1, 0, none⟩ = some (.int .i64 p.pe)) ∧ z.cell? ⟨gl, k * 3 + 2, none⟩ = some (.slice ase l.sen cse)) := fun z h => ⟨⟨blk_cell (blk_below bWY h) 3 _ rfl, blk_cell (blk_below bPY h) 0 _ rfl⟩, (h.cell (p := ⟨gl, k * 3 + 2, none⟩) (blk_lt bGY)).trans LY0⟩
  refine wp_region_z 16 17 (fun w' => (w'.cell? ⟨w.heap.size, 3, none⟩ = some (.int .i64 who) ∧ w'.cell? ⟨sb + 1, 0, none⟩ = some (.int .i64 p.pe)) ∧ w'.cell? ⟨gl, k * 3 + 2, none⟩ = some (.slice ase l.sen cse)) rfl (by kernel_rfl) (KS.out _ (Below.drew (Below.refl _ _))) (fun hS => ?_)
  simp only [List.replicate_succ, List.replicate_zero]
  (refine wpAnyZ_takeL (i := 0) (v := ?_) rfl (by kernel_rfl) (fun _ _ _ h => h) (Or.inl ⟨by rfl, ?_⟩) (by assumption) ?_; rotate_left; (focus (intro w' hSw; (try dsimp only at hSw); go_simp; try with_reducible rfl)); simp only [Act.put, List.setIfInBounds_toArray, List.set_cons_zero, List.set_cons_succ])
  (refine wpAnyZ_takeL (i := 2) (v := ?_) rfl (by kernel_rfl) (fun _ _ _ h => h) (Or.inl ⟨by rfl, ?_⟩) (by assumption) ?_; rotate_left; (focus (intro w' hSw; (try dsimp only at hSw); go_simp; try with_reducible rfl)); simp only [Act.put, List.setIfInBounds_toArray, List.set_cons_zero, List.set_cons_succ])
  (refine wpAnyZ_takeL (i := 3) (v := ?_) rfl (by kernel_rfl) (fun _ _ _ h => h) (Or.inl ⟨by rfl, ?_⟩) (by assumption) ?_; rotate_left; (focus (intro w' hSw; (try dsimp only at hSw); go_simp; try with_reducible rfl)); simp only [Act.put, List.setIfInBounds_toArray, List.set_cons_zero, List.set_cons_succ])
  (refine wpAnyZ_takeL (i := 4) (v := ?_) rfl (by kernel_rfl) (fun _ _ _ h => h) (Or.inl ⟨by rfl, ?_⟩) (by assumption) ?_; rotate_left; (focus (intro w' hSw; (try dsimp only at hSw); go_simp; try with_reducible rfl)); simp only [Act.put, List.setIfInBounds_toArray, List.set_cons_zero, List.set_cons_succ])
  (refine wpAnyZ_takeL (i := 5) (v := ?_) rfl (by kernel_rfl) (fun _ _ _ h => h) (Or.inl ⟨by rfl, ?_⟩) (by assumption) ?_; rotate_left; (focus (intro w' hSw; (try dsimp only at hSw); go_simp; try with_reducible rfl)); simp only [Act.put, List.setIfInBounds_toArray, List.set_cons_zero, List.set_cons_succ])
  (refine wpAnyZ_takeL (i := 7) (v := ?_) rfl (by kernel_rfl) (fun _ _ _ h => h) (Or.inl ⟨by rfl, ?_⟩) (by assumption) ?_; rotate_left; (focus (intro w' hSw; (try dsimp only at hSw); go_simp; try with_reducible rfl)); simp only [Act.put, List.setIfInBounds_toArray, List.set_cons_zero, List.set_cons_succ])
  (refine wpAnyZ_takeL (i := 8) (v := ?_) rfl (by kernel_rfl) (fun _ _ _ h => h) (Or.inl ⟨by rfl, ?_⟩) (by assumption) ?_; rotate_left; (focus (intro w' hSw; (try dsimp only at hSw); go_simp; try with_reducible rfl)); simp only [Act.put, List.setIfInBounds_toArray, List.set_cons_zero, List.set_cons_succ])
  (refine wpAnyZ_takeL (i := 9) (v := ?_) rfl (by kernel_rfl) (fun _ _ _ h => h) (Or.inl ⟨by rfl, ?_⟩) (by assumption) ?_; rotate_left; (focus (intro w' hSw; (try dsimp only at hSw); go_simp; try with_reducible rfl)); simp only [Act.put, List.setIfInBounds_toArray, List.set_cons_zero, List.set_cons_succ])
  (refine wpAnyZ_takeL (i := 10) (v := ?_) rfl (by kernel_rfl) (fun _ _ _ h => h) (Or.inl ⟨by rfl, ?_⟩) (by assumption) ?_; rotate_left; (focus (intro w' hSw; (try dsimp only at hSw); go_simp; try with_reducible rfl)); simp only [Act.put, List.setIfInBounds_toArray, List.set_cons_zero, List.set_cons_succ])
  (refine wpAnyZ_takeL (i := 11) (v := ?_) rfl (by kernel_rfl) (fun _ _ _ h => h) (Or.inl ⟨by rfl, ?_⟩) (by assumption) ?_; rotate_left; (focus (intro w' hSw; (try dsimp only at hSw); go_simp; try with_reducible rfl)); simp only [Act.put, List.setIfInBounds_toArray, List.set_cons_zero, List.set_cons_succ])
  refine wpAnyZ_ready (rs := [1, 12]) (by kernel_rfl) (by simp) ?_
  refine AllReadyZ.consL rfl (fun K hK => ?_) ?_
  · go_simp; refine hK.out _ _ (KS.out _ (by repeat (first | exact HB1.out | exact Below.refl _ _ | refine Below.drew ?_ | refine push ?_ _))) (fun hS => ?_)
    clear hK K
    simp only [List.set_cons_zero, List.set_cons_succ]
    refine wpAnyZ_ready (rs := [6, 12]) (by kernel_rfl) (by simp) ?_
    refine AllReadyZ.consL rfl (fun K hK => ?_) ?_
    · refine step_append_own0 (by rfl) (.tmp 60) (.tmp 64) 132 (by rfl) 138 i0 (.agg #[.int .i64 0, .int .i64 0]) 2 16 Tryz.underlying132 ii iz0 iz1 iz2 rfl (by decide) w5.heap.size _ (by rfl) (by first | exact Nat.le_refl _ | omega | (simp; done) | (simp; omega)) (by repeat (first | ((with_reducible refine new_at _ _ _ ?_); (first | rfl | (simp; done))) | with_reducible refine blk_drew ?_ | with_reducible refine blk_alloc ?_ _)) ase l.sen cse (seatList l.se l.sen) (by rfl) HN.out (seatList_length _ _) (seats_cells (HLL.out _ (by repeat (first | exact Below.refl _ _ | refine Below.drew ?_ | refine push ?_ _)))) (seatList_one _ _) (by unfold maxLen; omega) (by omega) ?_; intro p1 q1 u1 hg1 hr1 hat1; clear hat1; have HB1 : Hid (Below w5.heap.size w5 u1) := (by show Below _ _ _; refine after ?_ (grown_below hg1); exact (by repeat (first | exact Below.refl _ _ | refine Below.drew ?_ | refine push ?_ _))); refine hK.out _ _ (KS.out _ HB1.out) (fun hS => ?_)
      clear hK K
      simp only [Act.put, List.setIfInBounds_toArray, List.set_cons_zero, List.set_cons_succ]
      refine wpAnyZ_ready (rs := [12]) (by kernel_rfl) (by simp) ?_
      refine AllReadyZ.consL rfl (fun K hK => ?_) ?_
      · go_simp; refine hK.out _ _ (KS.out _ (by repeat (first | exact HB1.out | exact Below.refl _ _ | refine Below.drew ?_ | refine push ?_ _))) (fun hS => ?_)
        clear hK K
        simp only [List.set_cons_zero, List.set_cons_succ]
        refine wpAnyZ_ready (rs := [13]) (by kernel_rfl) (by simp) ?_
        refine AllReadyZ.consL rfl (fun K hK => ?_) ?_
        · refine step_append_lies _ (by rfl) (.tmp 65) (.tmp 71) 132 (by rfl) w5.heap.size 138 i0 (.agg #[.int .i64 0, .int .i64 0]) 2 16 Tryz.underlying132 ii iz0 iz1 iz2 rfl (by decide) _ l.sen (seatList l.se l.sen) (by rfl) (by first | exact hr1 | exact hr1.alloc _ | exact own_below (push (Below.refl _ _) _) hr1) _ 1 1 [.int .i64 who, .int .i64 p.pe] (by rfl) (by rfl) (by refine World.news_of_block (cs := #[.int .i64 who, .int .i64 p.pe]) (t := 138) (fr := (0, 0)) ?_; exact (by repeat (first | ((with_reducible refine new_at _ _ _ ?_); (first | rfl | (simp; done))) | with_reducible refine blk_drew ?_ | with_reducible refine blk_alloc ?_ _ | with_reducible refine blk_below ?_ (grown_below hg1)))) (by intro u hu; simp at hu; rcases hu with rfl | rfl <;> rfl) (by decide) (by unfold maxLen; omega) (by omega) (by first | exact HB1.out.size | (have := HB1.out.size; simp; omega)) _ rfl ?_; intro g2 cap2 u2 ho2 hg2 hat2 hlt2; refine (fun (HB2 : Hid (Below w5.heap.size w5 u2)) => ?_) (Below.grown ?_ hg2 ?_ (fun j hj => (hr1.lt j hj).1)); rotate_left; (focus (repeat (first | exact Below.refl _ _ | refine Below.drew ?_ | refine push ?_ _ | refine after ?_ (grown_below hg1)))); (focus (first | exact HB1.out.size | (have := HB1.out.size; simp; omega))); have q0 := (HB2.out.cell (p := ⟨gl, k * 3 + 2, none⟩) (blk_lt bGY)).trans LY0; have q1 := blk_free (blk_below bGY HB2.out) (k * 3 + 2); refine hK.out _ _ (KS.out _ HB2.out) (fun hS => ?_)
          clear hK K
          simp only [Act.put, List.setIfInBounds_toArray, List.set_cons_zero, List.set_cons_succ]
          (refine wpAnyZ_takeL (i := 14) (v := ?_) rfl (by kernel_rfl) (fun _ _ _ h => h) (Or.inl ⟨by rfl, ?_⟩) (by assumption) ?_; rotate_left; (focus (intro w' hSw; (try dsimp only at hSw); go_simp; try with_reducible rfl)); simp only [Act.put, List.setIfInBounds_toArray, List.set_cons_zero, List.set_cons_succ])
          (refine wpAnyZ_takeL (i := 15) (v := ?_) rfl (by kernel_rfl) (fun _ _ _ h => h) (Or.inl ⟨by rfl, ?_⟩) (by assumption) ?_; rotate_left; (focus (intro w' hSw; (try dsimp only at hSw); go_simp; try with_reducible rfl)); simp only [Act.put, List.setIfInBounds_toArray, List.set_cons_zero, List.set_cons_succ])
          refine wpAnyZ_ready (rs := [16]) (by kernel_rfl) (by simp) ?_
          refine AllReadyZ.lastL rfl (fun K hK => ?_)
          go_simp
          refine hK.out _ _ ?_
          clear hK K
          refine wpAnyZ_done (by kernel_rfl) ?_ _
          have HF : Hid _ := doSe (k := k) (n := l.sen + 1) (T := seatCat l.se l.sen (fun _ => ⟨who, p.pe⟩)) (v := ⟨leg, 2, false, who, p⟩) HO.out HQ.out HBG.out (after hbY HB2.out) (own_base (by rw [seatList_cat, seatList_succ, show seatList (fun _ => (⟨who, p.pe⟩ : Seat)) 0 = [] from rfl, List.nil_append]; exact ho2) hbY.size) (by rw [HLD.out]; refine .addSeat rfl rfl (by rw [← HLD.out]; exact H60.out) ?_; rw [← HSD.out, ← HLD.out, ← HSQ.out]; have := HM.out; show q + p.pe ≤ s.most; omega)
          go_wp2
          go_ret
          exact HF.out
        exact AllReadyZ.nil
      exact AllReadyZ.nil
    refine AllReadyZ.consL rfl (fun K hK => ?_) ?_
    · go_simp; refine hK.out _ _ (KS.out _ (by repeat (first | exact HB1.out | exact Below.refl _ _ | refine Below.drew ?_ | refine push ?_ _))) (fun hS => ?_)
      clear hK K
      simp only [List.set_cons_zero, List.set_cons_succ]
      refine wpAnyZ_ready (rs := [6]) (by kernel_rfl) (by simp) ?_
      refine AllReadyZ.consL rfl (fun K hK => ?_) ?_
      · refine step_append_own0 (by rfl) (.tmp 60) (.tmp 64) 132 (by rfl) 138 i0 (.agg #[.int .i64 0, .int .i64 0]) 2 16 Tryz.underlying132 ii iz0 iz1 iz2 rfl (by decide) w5.heap.size _ (by rfl) (by first | exact Nat.le_refl _ | omega | (simp; done) | (simp; omega)) (by repeat (first | ((with_reducible refine new_at _ _ _ ?_); (first | rfl | (simp; done))) | with_reducible refine blk_drew ?_ | with_reducible refine blk_alloc ?_ _)) ase l.sen cse (seatList l.se l.sen) (by rfl) HN.out (seatList_length _ _) (seats_cells (HLL.out _ (by repeat (first | exact Below.refl _ _ | refine Below.drew ?_ | refine push ?_ _)))) (seatList_one _ _) (by unfold maxLen; omega) (by omega) ?_; intro p1 q1 u1 hg1 hr1 hat1; clear hat1; have HB1 : Hid (Below w5.heap.size w5 u1) := (by show Below _ _ _; refine after ?_ (grown_below hg1); exact (by repeat (first | exact Below.refl _ _ | refine Below.drew ?_ | refine push ?_ _))); refine hK.out _ _ (KS.out _ HB1.out) (fun hS => ?_)
        clear hK K
        simp only [Act.put, List.setIfInBounds_toArray, List.set_cons_zero, List.set_cons_succ]
        refine wpAnyZ_ready (rs := [13]) (by kernel_rfl) (by simp) ?_
        refine AllReadyZ.consL rfl (fun K hK => ?_) ?_
        · refine step_append_lies _ (by rfl) (.tmp 65) (.tmp 71) 132 (by rfl) w5.heap.size 138 i0 (.agg #[.int .i64 0, .int .i64 0]) 2 16 Tryz.underlying132 ii iz0 iz1 iz2 rfl (by decide) _ l.sen (seatList l.se l.sen) (by rfl) (by first | exact hr1 | exact hr1.alloc _ | exact own_below (push (Below.refl _ _) _) hr1) _ 1 1 [.int .i64 who, .int .i64 p.pe] (by rfl) (by rfl) (by refine World.news_of_block (cs := #[.int .i64 who, .int .i64 p.pe]) (t := 138) (fr := (0, 0)) ?_; exact (by repeat (first | ((with_reducible refine new_at _ _ _ ?_); (first | rfl | (simp; done))) | with_reducible refine blk_drew ?_ | with_reducible refine blk_alloc ?_ _ | with_reducible refine blk_below ?_ (grown_below hg1)))) (by intro u hu; simp at hu; rcases hu with rfl | rfl <;> rfl) (by decide) (by unfold maxLen; omega) (by omega) (by first | exact HB1.out.size | (have := HB1.out.size; simp; omega)) _ rfl ?_; intro g2 cap2 u2 ho2 hg2 hat2 hlt2; refine (fun (HB2 : Hid (Below w5.heap.size w5 u2)) => ?_) (Below.grown ?_ hg2 ?_ (fun j hj => (hr1.lt j hj).1)); rotate_left; (focus (repeat (first | exact Below.refl _ _ | refine Below.drew ?_ | refine push ?_ _ | refine after ?_ (grown_below hg1)))); (focus (first | exact HB1.out.size | (have := HB1.out.size; simp; omega))); have q0 := (HB2.out.cell (p := ⟨gl, k * 3 + 2, none⟩) (blk_lt bGY)).trans LY0; have q1 := blk_free (blk_below bGY HB2.out) (k * 3 + 2); refine hK.out _ _ (KS.out _ HB2.out) (fun hS => ?_)
          clear hK K
          simp only [Act.put, List.setIfInBounds_toArray, List.set_cons_zero, List.set_cons_succ]
          (refine wpAnyZ_takeL (i := 14) (v := ?_) rfl (by kernel_rfl) (fun _ _ _ h => h) (Or.inl ⟨by rfl, ?_⟩) (by assumption) ?_; rotate_left; (focus (intro w' hSw; (try dsimp only at hSw); go_simp; try with_reducible rfl)); simp only [Act.put, List.setIfInBounds_toArray, List.set_cons_zero, List.set_cons_succ])
          (refine wpAnyZ_takeL (i := 15) (v := ?_) rfl (by kernel_rfl) (fun _ _ _ h => h) (Or.inl ⟨by rfl, ?_⟩) (by assumption) ?_; rotate_left; (focus (intro w' hSw; (try dsimp only at hSw); go_simp; try with_reducible rfl)); simp only [Act.put, List.setIfInBounds_toArray, List.set_cons_zero, List.set_cons_succ])
          refine wpAnyZ_ready (rs := [16]) (by kernel_rfl) (by simp) ?_
          refine AllReadyZ.lastL rfl (fun K hK => ?_)
          go_simp
          refine hK.out _ _ ?_
          clear hK K
          refine wpAnyZ_done (by kernel_rfl) ?_ _
          have HF : Hid _ := doSe (k := k) (n := l.sen + 1) (T := seatCat l.se l.sen (fun _ => ⟨who, p.pe⟩)) (v := ⟨leg, 2, false, who, p⟩) HO.out HQ.out HBG.out (after hbY HB2.out) (own_base (by rw [seatList_cat, seatList_succ, show seatList (fun _ => (⟨who, p.pe⟩ : Seat)) 0 = [] from rfl, List.nil_append]; exact ho2) hbY.size) (by rw [HLD.out]; refine .addSeat rfl rfl (by rw [← HLD.out]; exact H60.out) ?_; rw [← HSD.out, ← HLD.out, ← HSQ.out]; have := HM.out; show q + p.pe ≤ s.most; omega)
          go_wp2
          go_ret
          exact HF.out
        exact AllReadyZ.nil
      exact AllReadyZ.nil
    exact AllReadyZ.nil
  refine AllReadyZ.consL rfl (fun K hK => ?_) ?_
  · go_simp; refine hK.out _ _ (KS.out _ (by repeat (first | exact HB1.out | exact Below.refl _ _ | refine Below.drew ?_ | refine push ?_ _))) (fun hS => ?_)
    clear hK K
    simp only [List.set_cons_zero, List.set_cons_succ]
    refine wpAnyZ_ready (rs := [1]) (by kernel_rfl) (by simp) ?_
    refine AllReadyZ.consL rfl (fun K hK => ?_) ?_
    · go_simp; refine hK.out _ _ (KS.out _ (by repeat (first | exact HB1.out | exact Below.refl _ _ | refine Below.drew ?_ | refine push ?_ _))) (fun hS => ?_)
      clear hK K
      simp only [List.set_cons_zero, List.set_cons_succ]
      refine wpAnyZ_ready (rs := [6]) (by kernel_rfl) (by simp) ?_
      refine AllReadyZ.consL rfl (fun K hK => ?_) ?_
      · refine step_append_own0 (by rfl) (.tmp 60) (.tmp 64) 132 (by rfl) 138 i0 (.agg #[.int .i64 0, .int .i64 0]) 2 16 Tryz.underlying132 ii iz0 iz1 iz2 rfl (by decide) w5.heap.size _ (by rfl) (by first | exact Nat.le_refl _ | omega | (simp; done) | (simp; omega)) (by repeat (first | ((with_reducible refine new_at _ _ _ ?_); (first | rfl | (simp; done))) | with_reducible refine blk_drew ?_ | with_reducible refine blk_alloc ?_ _)) ase l.sen cse (seatList l.se l.sen) (by rfl) HN.out (seatList_length _ _) (seats_cells (HLL.out _ (by repeat (first | exact Below.refl _ _ | refine Below.drew ?_ | refine push ?_ _)))) (seatList_one _ _) (by unfold maxLen; omega) (by omega) ?_; intro p1 q1 u1 hg1 hr1 hat1; clear hat1; have HB1 : Hid (Below w5.heap.size w5 u1) := (by show Below _ _ _; refine after ?_ (grown_below hg1); exact (by repeat (first | exact Below.refl _ _ | refine Below.drew ?_ | refine push ?_ _))); refine hK.out _ _ (KS.out _ HB1.out) (fun hS => ?_)
        clear hK K
        simp only [Act.put, List.setIfInBounds_toArray, List.set_cons_zero, List.set_cons_succ]
        refine wpAnyZ_ready (rs := [13]) (by kernel_rfl) (by simp) ?_
        refine AllReadyZ.consL rfl (fun K hK => ?_) ?_
        · refine step_append_lies _ (by rfl) (.tmp 65) (.tmp 71) 132 (by rfl) w5.heap.size 138 i0 (.agg #[.int .i64 0, .int .i64 0]) 2 16 Tryz.underlying132 ii iz0 iz1 iz2 rfl (by decide) _ l.sen (seatList l.se l.sen) (by rfl) (by first | exact hr1 | exact hr1.alloc _ | exact own_below (push (Below.refl _ _) _) hr1) _ 1 1 [.int .i64 who, .int .i64 p.pe] (by rfl) (by rfl) (by refine World.news_of_block (cs := #[.int .i64 who, .int .i64 p.pe]) (t := 138) (fr := (0, 0)) ?_; exact (by repeat (first | ((with_reducible refine new_at _ _ _ ?_); (first | rfl | (simp; done))) | with_reducible refine blk_drew ?_ | with_reducible refine blk_alloc ?_ _ | with_reducible refine blk_below ?_ (grown_below hg1)))) (by intro u hu; simp at hu; rcases hu with rfl | rfl <;> rfl) (by decide) (by unfold maxLen; omega) (by omega) (by first | exact HB1.out.size | (have := HB1.out.size; simp; omega)) _ rfl ?_; intro g2 cap2 u2 ho2 hg2 hat2 hlt2; refine (fun (HB2 : Hid (Below w5.heap.size w5 u2)) => ?_) (Below.grown ?_ hg2 ?_ (fun j hj => (hr1.lt j hj).1)); rotate_left; (focus (repeat (first | exact Below.refl _ _ | refine Below.drew ?_ | refine push ?_ _ | refine after ?_ (grown_below hg1)))); (focus (first | exact HB1.out.size | (have := HB1.out.size; simp; omega))); have q0 := (HB2.out.cell (p := ⟨gl, k * 3 + 2, none⟩) (blk_lt bGY)).trans LY0; have q1 := blk_free (blk_below bGY HB2.out) (k * 3 + 2); refine hK.out _ _ (KS.out _ HB2.out) (fun hS => ?_)
          clear hK K
          simp only [Act.put, List.setIfInBounds_toArray, List.set_cons_zero, List.set_cons_succ]
          (refine wpAnyZ_takeL (i := 14) (v := ?_) rfl (by kernel_rfl) (fun _ _ _ h => h) (Or.inl ⟨by rfl, ?_⟩) (by assumption) ?_; rotate_left; (focus (intro w' hSw; (try dsimp only at hSw); go_simp; try with_reducible rfl)); simp only [Act.put, List.setIfInBounds_toArray, List.set_cons_zero, List.set_cons_succ])
          (refine wpAnyZ_takeL (i := 15) (v := ?_) rfl (by kernel_rfl) (fun _ _ _ h => h) (Or.inl ⟨by rfl, ?_⟩) (by assumption) ?_; rotate_left; (focus (intro w' hSw; (try dsimp only at hSw); go_simp; try with_reducible rfl)); simp only [Act.put, List.setIfInBounds_toArray, List.set_cons_zero, List.set_cons_succ])
          refine wpAnyZ_ready (rs := [16]) (by kernel_rfl) (by simp) ?_
          refine AllReadyZ.lastL rfl (fun K hK => ?_)
          go_simp
          refine hK.out _ _ ?_
          clear hK K
          refine wpAnyZ_done (by kernel_rfl) ?_ _
          have HF : Hid _ := doSe (k := k) (n := l.sen + 1) (T := seatCat l.se l.sen (fun _ => ⟨who, p.pe⟩)) (v := ⟨leg, 2, false, who, p⟩) HO.out HQ.out HBG.out (after hbY HB2.out) (own_base (by rw [seatList_cat, seatList_succ, show seatList (fun _ => (⟨who, p.pe⟩ : Seat)) 0 = [] from rfl, List.nil_append]; exact ho2) hbY.size) (by rw [HLD.out]; refine .addSeat rfl rfl (by rw [← HLD.out]; exact H60.out) ?_; rw [← HSD.out, ← HLD.out, ← HSQ.out]; have := HM.out; show q + p.pe ≤ s.most; omega)
          go_wp2
          go_ret
          exact HF.out
        exact AllReadyZ.nil
      exact AllReadyZ.nil
    exact AllReadyZ.nil
  exact AllReadyZ.nil

end Go.Proofs.YtfallpinmhbemaaGreatDoor

namespace Go.Proofs.YtfallpinmhbemaaGreatDoor
open Go.RowKit

theorem l7Do_any (g base N R k csa cld cbk : Nat) (asa ald abk : Option Addr) (v : Wk) (x : Off) (L C A B D E : Nat → Value) (w : World) (hq : w.heap[g]? = some (.cells #[.slice asa N csa, .slice ald N cld, .slice abk R cbk] 66 (0, 0))) (ho : OwnOff w base (.slice asa N csa) (.slice ald N cld) (.slice abk R cbk) N N R x L C A B D E) (hN : N ≤ 1048576) (hk : findIx x.sa v.leg N = k) (hlt : k < N) (hok : LoadOk (x.sa k) (x.ld k)) (hr : v.res < 3) (hg : v.goes = true → hasAt (x.ld k) v.res v.who) (hp : v.goes = false → In v.p.pe 0 20) :
    Calls Tryz.prog 122 #[.pointer (some ⟨g, 0, none⟩), .agg #[.int .i64 v.leg, .int .i64 (v.res : Int), .bool v.goes, .int .i64 v.who, .int .i64 v.p.pe, .int .i64 v.p.len, .int .i64 v.p.hei, .int .i64 v.p.cl, .bool v.p.all, .int .i64 v.p.be]] w fun e w' => DoAns g base N R k csa cld cbk asa ald abk v x L C E w e w' := by
  obtain ⟨leg, res, goes, who, p⟩ := v
  have hr : res < 3 := hr
  cases goes with
  | true =>
    have hh := hg rfl
    obtain rfl | rfl | rfl : res = 0 ∨ res = 1 ∨ res = 2 := by omega
    · obtain ⟨r, h1, h2, h3⟩ := one_place hok.stays_one hh
      exact l7Do_a g base N R k csa cld cbk asa ald abk leg who p x L C A B D E w hq ho hN hk hlt hok r h1 h2 h3
    · obtain ⟨r, h1, h2, h3⟩ := one_place hok.rooms_one hh
      exact l7Do_b g base N R k csa cld cbk asa ald abk leg who p x L C A B D E w hq ho hN hk hlt hok r h1 h2 h3
    · obtain ⟨r, h1, h2, h3⟩ := one_place hok.seats_one hh
      exact l7Do_c g base N R k csa cld cbk asa ald abk leg who p x L C A B D E w hq ho hN hk hlt hok r h1 h2 h3
  | false =>
    obtain rfl | rfl | rfl : res = 0 ∨ res = 1 ∨ res = 2 := by omega
    · exact l7Do_d g base N R k csa cld cbk asa ald abk leg who p x L C A B D E w hq ho hN hk hlt hok
    · obtain ⟨pe, len, hei, cl, all, be⟩ := p
      cases all with
      | true => exact l7Do_e g base N R k csa cld cbk asa ald abk leg who pe len hei cl be x L C A B D E w hq ho hN hk hlt hok
      | false => exact l7Do_f g base N R k csa cld cbk asa ald abk leg who pe len hei cl be x L C A B D E w hq ho hN hk hlt hok
    · exact l7Do_g g base N R k csa cld cbk asa ald abk leg who p x L C A B D E w hq ho hN hk hlt hok (hp rfl)

end Go.Proofs.YtfallpinmhbemaaGreatDoor

namespace Go.Proofs.YtfallpinmhbemaaGreatDoor
open Go.RowKit

theorem fault_none {x : Off} {y : OpD} {m : Nat} (h : FaultAns x.san x.bkn m x y 0) (hm : OpOk y → In y.kind 4 8 → y.name = (m : Int) + 1) : NoFault x y m := by
  obtain ⟨h1, h2, h3, h4⟩ := h
  have hOp : OpOk y := by
    by_cases c : OpOk y
    · exact c
    · have := h1 c; omega
  have hR : ¬ RouteBad x.san x y := fun c => by have := h2 hOp c; omega
  refine ⟨hOp, hR, fun hk => ?_⟩
  obtain ⟨n1, n2, n3⟩ := h3 hOp hR hk
  have hm2 : m < x.bkn := by
    by_cases c : x.bkn ≤ m
    · have := n1 c; omega
    · omega
  exact ⟨hm hOp hk, hm2, fun c => by have := n2 hm2 c; omega⟩
/-- What an operation makes of an office, and what it answers. -/
def OpTo (x : Off) (bys : Int) (y : OpD) (m : Nat) (x2 : Off) (code name price : Int) : Prop :=
  (code ≠ 0 ∧ x2 = x ∧ name = 0 ∧ price = 0 ∧ FaultAns x.san x.bkn m x y code) ∨
  (NoFault x y m ∧ code ≠ 0 ∧ x2 = x ∧ name = 0 ∧ price = 0 ∧ ∃ j M v k, Stand x (worksOf x bys y m) j M ∧ (worksOf x bys y m)[j]? = some v ∧ findIx x.sa v.leg x.san = k ∧ k < x.san ∧ WorkIs (x.sa k) v (M k) code (M k)) ∨
  (NoFault x y m ∧ ∃ M x3, Stand x (worksOf x bys y m) (worksOf x bys y m).length M ∧ EndTo { x with ld := M } bys y m x3 code name price ∧ ((code ≠ 0 ∨ y.kind = 1) → x2 = x) ∧ (¬ (code ≠ 0 ∨ y.kind = 1) → x2 = x3))
/-- The answer of l7Op: an office in memory of its own, and an answer. -/
def OpAns (x : Off) (bys : Int) (y : OpD) (m base : Nat) (e : Ending) (w' : World) : Prop :=
  ∃ x2 a1 c1 a2 c2 a3 c3 code name price rv L C A B D E, e = .returned (.tuple #[.agg #[.slice a1 x2.san c1, .slice a2 x2.ldn c2, .slice a3 x2.bkn c3], .agg #[.int .i64 code, .int .i64 name, .int .i64 price, rv]]) ∧
    OwnOff w' base (.slice a1 x2.san c1) (.slice a2 x2.ldn c2) (.slice a3 x2.bkn c3) x2.san x2.ldn x2.bkn x2 L C A B D E ∧ OpTo x bys y m x2 code name price ∧ (rv = .slice none 0 0 ∨ ∃ M b, RowsAre { x with ld := M } y b w' rv)
theorem wkRow_get : ∀ (l : List Wk) (j : Nat) (v : Wk), l[j]? = some v → ∀ r, r < 10 → (wkRow l)[j * 10 + r]? = (wkC v)[r]?
  | [], j, v, h, _, _ => by simp at h
  | u :: l, 0, v, h, r, hr => by
    have e : u = v := by simpa using h
    subst e
    show (wkC u ++ wkRow l)[0 * 10 + r]? = _
    rw [List.getElem?_append_left (by show 0 * 10 + r < 10; omega), Nat.zero_mul, Nat.zero_add]
  | u :: l, j + 1, v, h, r, hr => by
    have h2 : l[j]? = some v := by simpa using h
    show (wkC u ++ wkRow l)[(j + 1) * 10 + r]? = _
    rw [List.getElem?_append_right (by show 10 ≤ (j + 1) * 10 + r; omega)]
    have e : (j + 1) * 10 + r - (wkC u).length = j * 10 + r := by show (j + 1) * 10 + r - 10 = _; omega
    rw [e]
    exact wkRow_get l j v h2 r hr
theorem EndTo.size {x : Off} {bys : Int} {y : OpD} {m : Nat} {x2 : Off} {code name price : Int} (h : EndTo x bys y m x2 code name price) : x2.san = x.san ∧ x2.ldn = x.ldn := by
  rcases h with ⟨_, rfl, _⟩ | ⟨_, rfl, _⟩ | ⟨_, _, rfl, _⟩ | ⟨_, _, rfl, _⟩ | ⟨_, _, rfl, _⟩ <;> exact ⟨rfl, rfl⟩
theorem EndTo.nine {x : Off} {bys : Int} {y : OpD} {m : Nat} {x2 : Off} {code name price : Int} (h : EndTo x bys y m x2 code name price) (hc : code ≠ 0 ∨ y.kind = 1) : y.kind ≠ 9 := by
  rcases h with ⟨h1, _, h2, _⟩ | ⟨h1, _, h2, _⟩ | ⟨h1, _, _, h2, _⟩ | ⟨h1, _, _, h2, _⟩ | ⟨h1, _, _, h2, _⟩ <;> first | omega | (unfold In at h1; omega)
/-- Both results are stored into their boxes. -/
theorem op_fin {w Z : World} {ob ab base n1 n2 n3 : Nat} {v1 v2 v3 o1 o2 o3 u0 u1 u2 u3 : Value} {x : Off} {L C A B D E : Nat → Value} (hb : Below w.heap.size w Z) (hoz : OwnOff Z base v1 v2 v3 n1 n2 n3 x L C A B D E) (hob : Z.heap[ob]? = some (.cells #[o1, o2, o3] 66 (0, 0))) (hab : Z.heap[ab]? = some (.cells #[u0, u1, u2, u3] 127 (0, 0))) (h1 : w.heap.size ≤ ob) (h2 : w.heap.size ≤ ab) (c0 c1 c2 c3 : Value) {F : World}
    (hF : F = ((((((Z.setCell ⟨ob, 0, none⟩ v1).setCell ⟨ob, 1, none⟩ v2).setCell ⟨ob, 2, none⟩ v3).setCell ⟨ab, 0, none⟩ c0).setCell ⟨ab, 1, none⟩ c1).setCell ⟨ab, 2, none⟩ c2).setCell ⟨ab, 3, none⟩ c3) :
    OwnOff F base v1 v2 v3 n1 n2 n3 x L C A B D E ∧ F.heap[ob]? = some (.cells #[v1, v2, v3] 66 (0, 0)) ∧ F.heap[ab]? = some (.cells #[c0, c1, c2, c3] 127 (0, 0)) ∧ Below w.heap.size w F ∧ Kept Z F (fun b => b = ob ∨ b = ab) := by
  subst hF
  have hne : ob ≠ ab := fun e => by subst e; rw [hob] at hab; simp at hab
  have k1 := keep3 Z ob v1 v2 v3
  have hab2 := k1.blk hab (fun e => hne e.symm)
  have k2 := ans_keep (((Z.setCell ⟨ob, 0, none⟩ v1).setCell ⟨ob, 1, none⟩ v2).setCell ⟨ob, 2, none⟩ v3) ab c0 c1 c2 c3
  have kk := (k1.mono (T := fun b => b = ob ∨ b = ab) (fun b e => .inl e)).trans (k2.mono (T := fun b => b = ob ∨ b = ab) (fun b e => .inr e))
  exact ⟨(hoz.box k1 hob (by decide)).box k2 hab2 (by decide), k2.blk (set3_blk hob v1 v2 v3) hne, ans_set hab2 _ _ _ _, Kept.below hb hb.size kk (fun b e => by rcases e with e | e <;> omega), kk⟩
theorem op_fin2 {w Z : World} {ob ab base n1 n2 n3 : Nat} {v1 v2 v3 o1 o2 o3 u0 u1 u2 u3 : Value} {x : Off} {L C A B D E : Nat → Value} (hb : Below w.heap.size w Z) (hoz : OwnOff Z base v1 v2 v3 n1 n2 n3 x L C A B D E) (hob : Z.heap[ob]? = some (.cells #[o1, o2, o3] 66 (0, 0))) (hab : Z.heap[ab]? = some (.cells #[u0, u1, u2, u3] 127 (0, 0))) (h1 : w.heap.size ≤ ob) (h2 : w.heap.size ≤ ab) (c0 c1 c2 c3 : Value) {F : World}
    (hF : F = ((((((Z.setCell ⟨ab, 0, none⟩ c0).setCell ⟨ab, 1, none⟩ c1).setCell ⟨ab, 2, none⟩ c2).setCell ⟨ab, 3, none⟩ c3).setCell ⟨ob, 0, none⟩ v1).setCell ⟨ob, 1, none⟩ v2).setCell ⟨ob, 2, none⟩ v3) :
    OwnOff F base v1 v2 v3 n1 n2 n3 x L C A B D E ∧ F.heap[ob]? = some (.cells #[v1, v2, v3] 66 (0, 0)) ∧ F.heap[ab]? = some (.cells #[c0, c1, c2, c3] 127 (0, 0)) ∧ Below w.heap.size w F ∧ Kept Z F (fun b => b = ob ∨ b = ab) := by
  subst hF
  have hne : ob ≠ ab := fun e => by subst e; rw [hob] at hab; simp at hab
  have k2 := ans_keep Z ab c0 c1 c2 c3
  have hob2 := k2.blk hob hne
  have k1 := keep3 ((((Z.setCell ⟨ab, 0, none⟩ c0).setCell ⟨ab, 1, none⟩ c1).setCell ⟨ab, 2, none⟩ c2).setCell ⟨ab, 3, none⟩ c3) ob v1 v2 v3
  have kk := (k2.mono (T := fun b => b = ob ∨ b = ab) (fun b e => .inr e)).trans (k1.mono (T := fun b => b = ob ∨ b = ab) (fun b e => .inl e))
  exact ⟨(hoz.box k2 hab (by decide)).box k1 hob2 (by decide), set3_blk hob2 v1 v2 v3, k1.blk (ans_set hab _ _ _ _) (fun e => hne e.symm), Kept.below hb hb.size kk (fun b e => by rcases e with e | e <;> omega), kk⟩
theorem rows_kept {x : Off} {y : OpD} {b : Nat} {z z' : World} {v : Value} {T : Nat → Prop} (h : RowsAre x y b z v) (hk : Kept z z' T) (hT : ∀ g, T g → ∃ cs t, z.heap[g]? = some (.cells cs t (0, 0)) ∧ 212 ≠ t) : RowsAre x y b z' v := by
  refine ⟨fun h9 => ?_, h.2⟩
  obtain ⟨k, h1, h2, h3⟩ := h.1 h9
  exact ⟨k, h1, h2, hk.own h3 (fun g hg s => by obtain ⟨cs, t, e1, e2⟩ := hT g s; exact own_notE h3 e1 e2 g hg rfl)⟩

end Go.Proofs.YtfallpinmhbemaaGreatDoor

namespace Go.Proofs.YtfallpinmhbemaaGreatDoor
open Go.RowKit

set_option maxHeartbeats 64000000 in
set_option maxRecDepth 100000 in
theorem l7Op_any (x : Off) (asa ald abk alg : Option Addr) (csa cld cbk clg m : Nat) (bys : Int) (y : OpD) (w : World) (hs : Off.Short x 1048576) (hsa : SailsAt w asa x.san x.sa) (hld : LoadsAt w ald x.ldn x.ld) (hbk : BooksAt w abk x.bkn x.bk) (hlg : IntsAt w alg y.lgn y.lg) (hsl : SliceOk alg y.lgn clg) (hl : y.lgn ≤ 1048576) (ho : y.own.size ≤ 1048576) (hO : OffOk x) (hb : In bys 1 9999) (hx : ∀ i, i < x.bkn → (x.bk i).who ≠ bys) (hm : OpOk y → In y.kind 4 8 → y.name = (m : Int) + 1 ∧ m ≤ 1048576) :
    Calls Tryz.prog 104 #[.agg #[.slice asa x.san csa, .slice ald x.ldn cld, .slice abk x.bkn cbk], .int .i64 bys, .agg #[.int .i64 y.kind, .string y.own, .int .i64 y.name, .slice alg y.lgn clg, .int .i64 y.pe, .int .i64 y.len, .int .i64 y.hei, .int .i64 y.cl, .bool y.all, .int .i64 y.be, .int .i64 y.unt, .int .i64 y.now]] w fun e w' => OpAns x bys y m w.heap.size e w' ∧ Below w.heap.size w w' := by
  have HS : Hid (Off.Short x 1048576) := hs
  have HM : Hid (SailsAt w asa x.san x.sa ∧ LoadsAt w ald x.ldn x.ld ∧ BooksAt w abk x.bkn x.bk ∧ IntsAt w alg y.lgn y.lg ∧ SliceOk alg y.lgn clg) := ⟨hsa, hld, hbk, hlg, hsl⟩
  have HG : Hid (OffOk x ∧ In bys 1 9999 ∧ ∀ i, i < x.bkn → (x.bk i).who ≠ bys) := ⟨hO, hb, hx⟩
  have HN : Hid (OpOk y → In y.kind 4 8 → y.name = (m : Int) + 1 ∧ m ≤ 1048576) := hm
  have hN6 : x.san ≤ 6 := hO.1.1
  have hB30 : x.bkn ≤ 30 := hO.2.2.1
  have HLN : Hid (x.ldn = x.san) := hO.2.1
  clear hs hsa hld hbk hlg hsl hO hb hx hm
  have hb0 : Below w.heap.size w ((((w.alloc (.cells #[.slice asa x.san csa, .slice ald x.ldn cld, .slice abk x.bkn cbk] 66)).alloc (.cells #[.int .i64 y.kind, .string y.own, .int .i64 y.name, .slice alg y.lgn clg, .int .i64 y.pe, .int .i64 y.len, .int .i64 y.hei, .int .i64 y.cl, .bool y.all, .int .i64 y.be, .int .i64 y.unt, .int .i64 y.now] 27)).alloc (.cells #[.slice none 0 0, .slice none 0 0, .slice none 0 0] 66)).alloc (.cells #[.int .i64 0, .int .i64 0, .int .i64 0, .slice none 0 0] 127)) := push (push (push (push (Below.refl _ _) _) _) _) _
  have b0 := blk_alloc (blk_alloc (blk_alloc (heap_alloc_new w (.cells #[.slice asa x.san csa, .slice ald x.ldn cld, .slice abk x.bkn cbk] 66)) (.cells #[.int .i64 y.kind, .string y.own, .int .i64 y.name, .slice alg y.lgn clg, .int .i64 y.pe, .int .i64 y.len, .int .i64 y.hei, .int .i64 y.cl, .bool y.all, .int .i64 y.be, .int .i64 y.unt, .int .i64 y.now] 27)) (.cells #[.slice none 0 0, .slice none 0 0, .slice none 0 0] 66)) (.cells #[.int .i64 0, .int .i64 0, .int .i64 0, .slice none 0 0] 127)
  have b1 := blk_alloc (blk_alloc (new2 w (.cells #[.slice asa x.san csa, .slice ald x.ldn cld, .slice abk x.bkn cbk] 66) (.cells #[.int .i64 y.kind, .string y.own, .int .i64 y.name, .slice alg y.lgn clg, .int .i64 y.pe, .int .i64 y.len, .int .i64 y.hei, .int .i64 y.cl, .bool y.all, .int .i64 y.be, .int .i64 y.unt, .int .i64 y.now] 27)) (.cells #[.slice none 0 0, .slice none 0 0, .slice none 0 0] 66)) (.cells #[.int .i64 0, .int .i64 0, .int .i64 0, .slice none 0 0] 127)
  have b2 := blk_alloc (show (((w.alloc (.cells #[.slice asa x.san csa, .slice ald x.ldn cld, .slice abk x.bkn cbk] 66)).alloc (.cells #[.int .i64 y.kind, .string y.own, .int .i64 y.name, .slice alg y.lgn clg, .int .i64 y.pe, .int .i64 y.len, .int .i64 y.hei, .int .i64 y.cl, .bool y.all, .int .i64 y.be, .int .i64 y.unt, .int .i64 y.now] 27)).alloc (.cells #[.slice none 0 0, .slice none 0 0, .slice none 0 0] 66)).heap[w.heap.size + 1 + 1]? = some (.cells #[.slice none 0 0, .slice none 0 0, .slice none 0 0] 66 (0, 0)) from by simpa using heap_alloc_new ((w.alloc (.cells #[.slice asa x.san csa, .slice ald x.ldn cld, .slice abk x.bkn cbk] 66)).alloc (.cells #[.int .i64 y.kind, .string y.own, .int .i64 y.name, .slice alg y.lgn clg, .int .i64 y.pe, .int .i64 y.len, .int .i64 y.hei, .int .i64 y.cl, .bool y.all, .int .i64 y.be, .int .i64 y.unt, .int .i64 y.now] 27)) (.cells #[.slice none 0 0, .slice none 0 0, .slice none 0 0] 66)) (.cells #[.int .i64 0, .int .i64 0, .int .i64 0, .slice none 0 0] 127)
  have b3 : ((((w.alloc (.cells #[.slice asa x.san csa, .slice ald x.ldn cld, .slice abk x.bkn cbk] 66)).alloc (.cells #[.int .i64 y.kind, .string y.own, .int .i64 y.name, .slice alg y.lgn clg, .int .i64 y.pe, .int .i64 y.len, .int .i64 y.hei, .int .i64 y.cl, .bool y.all, .int .i64 y.be, .int .i64 y.unt, .int .i64 y.now] 27)).alloc (.cells #[.slice none 0 0, .slice none 0 0, .slice none 0 0] 66)).alloc (.cells #[.int .i64 0, .int .i64 0, .int .i64 0, .slice none 0 0] 127)).heap[w.heap.size + 1 + 1 + 1]? = some (.cells #[.int .i64 0, .int .i64 0, .int .i64 0, .slice none 0 0] 127 (0, 0)) := by simpa using heap_alloc_new (((w.alloc (.cells #[.slice asa x.san csa, .slice ald x.ldn cld, .slice abk x.bkn cbk] 66)).alloc (.cells #[.int .i64 y.kind, .string y.own, .int .i64 y.name, .slice alg y.lgn clg, .int .i64 y.pe, .int .i64 y.len, .int .i64 y.hei, .int .i64 y.cl, .bool y.all, .int .i64 y.be, .int .i64 y.unt, .int .i64 y.now] 27)).alloc (.cells #[.slice none 0 0, .slice none 0 0, .slice none 0 0] 66)) (.cells #[.int .i64 0, .int .i64 0, .int .i64 0, .slice none 0 0] 127)
  go_enter Tryz.func104, Tryz.ntmps104
  go_wp2_with fail
  generalize ((((w.alloc (.cells #[.slice asa x.san csa, .slice ald x.ldn cld, .slice abk x.bkn cbk] 66)).alloc (.cells #[.int .i64 y.kind, .string y.own, .int .i64 y.name, .slice alg y.lgn clg, .int .i64 y.pe, .int .i64 y.len, .int .i64 y.hei, .int .i64 y.cl, .bool y.all, .int .i64 y.be, .int .i64 y.unt, .int .i64 y.now] 27)).alloc (.cells #[.slice none 0 0, .slice none 0 0, .slice none 0 0] 66)).alloc (.cells #[.int .i64 0, .int .i64 0, .int .i64 0, .slice none 0 0] 127)) = W at hb0 b0 b1 b2 b3 ⊢
  refine (l7Fault_any asa ald abk alg x.san x.ldn x.bkn csa cld cbk clg m x y _ (by omega) (by omega) hl (by omega) (HM.out.1.below hb0) (HM.out.2.2.1.below hb0) ⟨alg, clg, rfl, HM.out.2.2.2.1.below hb0, HM.out.2.2.2.2⟩ HN.out).mono ?_
  rintro e V ⟨⟨code, rfl, hcode⟩, hbv⟩
  have HFA : Hid (FaultAns x.san x.bkn m x y code) := hcode
  clear hcode
  replace hb0 := after hb0 hbv
  replace b0 := blk_below b0 hbv
  replace b1 := blk_below b1 hbv
  replace b2 := blk_below b2 hbv
  replace b3 := blk_below b3 hbv
  clear hbv W
  have f0 := blk_cell b0 0 _ rfl
  have f1 := blk_cell b0 1 _ rfl
  have f2 := blk_cell b0 2 _ rfl
  by_cases hc : code = 0
  case neg =>
    have d1 : (code != 0) = true := by simpa using hc
    have d2 : (code == 0) = false := by simpa using hc
    have HC : Hid (code ≠ 0) := hc
    clear hc
    go_wp2_with fail
    refine (l7Own_any asa ald abk x.san x.ldn x.bkn csa cld cbk x _ rfl rfl rfl HS.out (HM.out.1.below hb0) (HM.out.2.1.below hb0) (HM.out.2.2.1.below hb0)).mono ?_
    rintro e V9 ⟨⟨a1, c1, a2, c2, a3, c3, L9, C9, A9, B9, D9, E9, rfl, HOW⟩, hb9⟩
    have hbw9 := after hb0 hb9
    have r2 := blk_below b2 hb9
    have r3 := blk_below b3 hb9
    obtain ⟨HOF, rF2, rF3, hbF, _⟩ := op_fin hbw9 (HOW.lower hb0.size) r2 r3 (by omega) (by omega) (.int .i64 code) (.int .i64 0) (.int .i64 0) (.slice none 0 0) rfl
    have HOG : Hid _ := HOF
    have HBG : Hid _ := hbF
    clear HOF hbF HOW
    have s0 := blk_cell r2 0 _ rfl
    have sf0 := blk_free r2 0
    have s1 := blk_cell r2 1 _ rfl
    have sf1 := blk_free r2 1
    have s2 := blk_cell r2 2 _ rfl
    have sf2 := blk_free r2 2
    have t0 := blk_cell r3 0 _ rfl
    have tf0 := blk_free r3 0
    have t1 := blk_cell r3 1 _ rfl
    have tf1 := blk_free r3 1
    have t2 := blk_cell r3 2 _ rfl
    have tf2 := blk_free r3 2
    have t3 := blk_cell r3 3 _ rfl
    have tf3 := blk_free r3 3
    go_wp2
    have x0 := blk_cell rF2 0 _ rfl
    have x1 := blk_cell rF2 1 _ rfl
    have x2 := blk_cell rF2 2 _ rfl
    have z0 := blk_cell rF3 0 _ rfl
    have z1 := blk_cell rF3 1 _ rfl
    have z2 := blk_cell rF3 2 _ rfl
    have z3 := blk_cell rF3 3 _ rfl
    exact bodyPost_ret (v := .tuple #[.agg #[.slice a1 x.san c1, .slice a2 x.ldn c2, .slice a3 x.bkn c3], .agg #[.int .i64 code, .int .i64 0, .int .i64 0, .slice none 0 0]]) (by simp [results, Tryz.results104, go_sem, x0, x1, x2, z0, z1, z2, z3]) rfl ⟨⟨x, _, _, _, _, _, _, _, _, _, _, _, _, _, _, _, _, rfl, HOG.out, .inl ⟨HC.out, rfl, rfl, rfl, HFA.out⟩, .inl rfl⟩, HBG.out⟩
  subst hc
  have hV3 : w.heap.size + 1 + 1 + 1 < V.heap.size := blk_lt b3
  have HNF : Hid (NoFault x y m) := fault_none HFA.out (fun h1 h2 => (HN.out h1 h2).1)
  go_wp2_with fail
  refine (l7Own_any asa ald abk x.san x.ldn x.bkn csa cld cbk x _ rfl rfl rfl HS.out (HM.out.1.below hb0) (HM.out.2.1.below hb0) (HM.out.2.2.1.below hb0)).mono ?_
  rintro e V2 ⟨⟨a1, c1, a2, c2, a3, c3, L, C, A, B, D, E, rfl, HOW⟩, hb2⟩
  have HOV : Hid (OwnOff V2 V.heap.size (.slice a1 x.san c1) (.slice a2 x.ldn c2) (.slice a3 x.bkn c3) x.san x.ldn x.bkn x L C A B D E) := HOW
  have hszV : w.heap.size ≤ V.heap.size := hb0.size
  replace hb0 := after hb0 hb2
  replace b0 := blk_below b0 hb2
  replace b1 := blk_below b1 hb2
  replace b2 := blk_below b2 hb2
  replace b3 := blk_below b3 hb2
  have hb3lt : Hid (w.heap.size + 1 + 1 + 1 < V2.heap.size) := blk_lt b3
  clear f0 f1 f2 HOW
  have g0 : ∀ o, (V2.alloc o).cell? ⟨w.heap.size, 0, none⟩ = some (.slice asa x.san csa) := fun o => blk_cell (blk_alloc b0 o) 0 _ rfl
  have g1 : ∀ o, (V2.alloc o).cell? ⟨w.heap.size, 1, none⟩ = some (.slice ald x.ldn cld) := fun o => blk_cell (blk_alloc b0 o) 1 _ rfl
  have g2 : ∀ o, (V2.alloc o).cell? ⟨w.heap.size, 2, none⟩ = some (.slice abk x.bkn cbk) := fun o => blk_cell (blk_alloc b0 o) 2 _ rfl
  have h0 : ∀ o, (V2.alloc o).cell? ⟨w.heap.size + 1, 0, none⟩ = some (.int .i64 y.kind) := fun o => blk_cell (blk_alloc b1 o) 0 _ rfl
  have h1 : ∀ o, (V2.alloc o).cell? ⟨w.heap.size + 1, 1, none⟩ = some (.string y.own) := fun o => blk_cell (blk_alloc b1 o) 1 _ rfl
  have h2 : ∀ o, (V2.alloc o).cell? ⟨w.heap.size + 1, 2, none⟩ = some (.int .i64 y.name) := fun o => blk_cell (blk_alloc b1 o) 2 _ rfl
  have h3 : ∀ o, (V2.alloc o).cell? ⟨w.heap.size + 1, 3, none⟩ = some (.slice alg y.lgn clg) := fun o => blk_cell (blk_alloc b1 o) 3 _ rfl
  have h4 : ∀ o, (V2.alloc o).cell? ⟨w.heap.size + 1, 4, none⟩ = some (.int .i64 y.pe) := fun o => blk_cell (blk_alloc b1 o) 4 _ rfl
  have h5 : ∀ o, (V2.alloc o).cell? ⟨w.heap.size + 1, 5, none⟩ = some (.int .i64 y.len) := fun o => blk_cell (blk_alloc b1 o) 5 _ rfl
  have h6 : ∀ o, (V2.alloc o).cell? ⟨w.heap.size + 1, 6, none⟩ = some (.int .i64 y.hei) := fun o => blk_cell (blk_alloc b1 o) 6 _ rfl
  have h7 : ∀ o, (V2.alloc o).cell? ⟨w.heap.size + 1, 7, none⟩ = some (.int .i64 y.cl) := fun o => blk_cell (blk_alloc b1 o) 7 _ rfl
  have h8 : ∀ o, (V2.alloc o).cell? ⟨w.heap.size + 1, 8, none⟩ = some (.bool y.all) := fun o => blk_cell (blk_alloc b1 o) 8 _ rfl
  have h9 : ∀ o, (V2.alloc o).cell? ⟨w.heap.size + 1, 9, none⟩ = some (.int .i64 y.be) := fun o => blk_cell (blk_alloc b1 o) 9 _ rfl
  have h10 : ∀ o, (V2.alloc o).cell? ⟨w.heap.size + 1, 10, none⟩ = some (.int .i64 y.unt) := fun o => blk_cell (blk_alloc b1 o) 10 _ rfl
  have h11 : ∀ o, (V2.alloc o).cell? ⟨w.heap.size + 1, 11, none⟩ = some (.int .i64 y.now) := fun o => blk_cell (blk_alloc b1 o) 11 _ rfl
  go_wp2_with fail
  have bQ := heap_alloc_new V2 (.cells #[.slice a1 x.san c1, .slice a2 x.ldn c2, .slice a3 x.bkn c3] 66)
  have hszq : V.heap.size ≤ V2.heap.size := hb2.size
  have HOX : Hid (OwnOff (V2.alloc (.cells #[.slice a1 x.san c1, .slice a2 x.ldn c2, .slice a3 x.bkn c3] 66)) V.heap.size (.slice a1 x.san c1) (.slice a2 x.ldn c2) (.slice a3 x.bkn c3) x.san x.ldn x.bkn x L C A B D E) := HOV.out.below (push (Below.refl _ _) _)
  replace hb0 := push hb0 (.cells #[.slice a1 x.san c1, .slice a2 x.ldn c2, .slice a3 x.bkn c3] 66)
  replace b0 := blk_alloc b0 (.cells #[.slice a1 x.san c1, .slice a2 x.ldn c2, .slice a3 x.bkn c3] 66)
  replace b1 := blk_alloc b1 (.cells #[.slice a1 x.san c1, .slice a2 x.ldn c2, .slice a3 x.bkn c3] 66)
  replace b2 := blk_alloc b2 (.cells #[.slice a1 x.san c1, .slice a2 x.ldn c2, .slice a3 x.bkn c3] 66)
  replace b3 := blk_alloc b3 (.cells #[.slice a1 x.san c1, .slice a2 x.ldn c2, .slice a3 x.bkn c3] 66)
  have h3V : w.heap.size + 1 + 1 + 1 < V2.heap.size := hb3lt.out
  generalize V2.alloc (.cells #[.slice a1 x.san c1, .slice a2 x.ldn c2, .slice a3 x.bkn c3] 66) = X at bQ HOX hb0 b0 b1 b2 b3 ⊢
  have hqlt0 := blk_lt bQ
  generalize V2.heap.size = qb at bQ hszq h3V hqlt0 ⊢
  have hqlt : Hid (qb < X.heap.size) := hqlt0
  clear hqlt0
  clear hb3lt g0 g1 g2 h0 h1 h2 h3 h4 h5 h6 h7 h8 h9 h10 h11 HOV hb2 V2
  refine (l7Works_any asa ald abk alg x.san x.ldn x.bkn csa cld cbk clg m x y bys _ (by omega) HS.out.2.2.2 hl (HM.out.2.2.1.below hb0) (HM.out.2.2.2.1.below hb0) (fun hk => ⟨(HNF.out.2.2 (frees_named hk)).1, (HNF.out.2.2 (frees_named hk)).2.1⟩)).mono ?_
  rintro e Y ⟨v, rfl, hwk, hby⟩
  have HWF : Hid ((worksOf x bys y m).Pairwise Differ ∧ ∀ v ∈ worksOf x bys y m, Apt x x.ld v ∧ WkOk x v) := works_fit HG.out.1 HNF.out HG.out.2.1 HG.out.2.2
  obtain ⟨l, hl0⟩ : ∃ l, l = worksOf x bys y m := ⟨_, rfl⟩
  rw [← hl0] at hwk HWF
  have HL : Hid (l = worksOf x bys y m) := hl0
  have hln : l.length ≤ 1000 := by
    rw [hl0]
    unfold worksOf
    have q1 := opOk_pe HNF.out.1
    have q2 := wksTo_len true (x.bk m).who ⟨(x.bk m).pe, (x.bk m).len, (x.bk m).hei, (x.bk m).cl, (x.bk m).all, (x.bk m).be⟩ (x.bk m).lg (x.bk m).lgn
    have q3 := wksTo_len false bys ⟨y.pe, y.len, y.hei, y.cl, y.all, y.be⟩ y.lg y.lgn
    have q4 : FreesK y.kind → (x.bk m).lgn ≤ 3 := fun hk => (HG.out.1.2.2.2.2.1 m (HNF.out.2.2 (frees_named hk)).2.1).2.2.2.1.2.1
    rw [List.length_append]
    have p1 : (if FreesK y.kind then wksTo true (x.bk m).who ⟨(x.bk m).pe, (x.bk m).len, (x.bk m).hei, (x.bk m).cl, (x.bk m).all, (x.bk m).be⟩ (x.bk m).lg (x.bk m).lgn else []).length ≤ 9 := by
      by_cases c : FreesK y.kind
      · rw [if_pos c]; have := q4 c; omega
      · rw [if_neg c]; decide
    have p2 : (if HasLegs y.kind then wksTo false bys ⟨y.pe, y.len, y.hei, y.cl, y.all, y.be⟩ y.lg y.lgn else []).length ≤ 9 := by
      by_cases c : HasLegs y.kind
      · rw [if_pos c]; omega
      · rw [if_neg c]; decide
    omega
  clear hl0
  obtain ⟨aw, cw, rfl, w1, w2, w3⟩ := own_form hwk
  have HWK : Hid (Y.ownsRow X.heap.size 175 10 (.slice aw l.length cw) l.length (wkRow l)) := hwk
  have HOY : Hid (OwnOff Y V.heap.size (.slice a1 x.san c1) (.slice a2 x.ldn c2) (.slice a3 x.bkn c3) x.san x.ldn x.bkn x L C A B D E) := HOX.out.below hby
  have hszX : X.heap.size ≤ Y.heap.size := hby.size
  replace hb0 := after hb0 hby
  replace b0 := blk_below b0 hby
  replace b1 := blk_below b1 hby
  replace b2 := blk_below b2 hby
  replace b3 := blk_below b3 hby
  replace bQ := blk_below bQ hby
  have hqX : qb < X.heap.size := hqlt.out
  clear hwk hby w1 w2 w3 HOX
  rw [HLN.out] at HOY bQ ⊢
  have HALL : Hid (∀ wr, Kept Y wr (fun b => (Value.slice a2 x.san c2).ownBlock = some b) → Below w.heap.size w wr ∧ wr.heap[w.heap.size]? = some (.cells #[.slice asa x.san csa, .slice ald x.ldn cld, .slice abk x.bkn cbk] 66 (0, 0)) ∧ wr.heap[w.heap.size + 1]? = some (.cells #[.int .i64 y.kind, .string y.own, .int .i64 y.name, .slice alg y.lgn clg, .int .i64 y.pe, .int .i64 y.len, .int .i64 y.hei, .int .i64 y.cl, .bool y.all, .int .i64 y.be, .int .i64 y.unt, .int .i64 y.now] 27 (0, 0)) ∧ wr.heap[w.heap.size + 1 + 1]? = some (.cells #[.slice none 0 0, .slice none 0 0, .slice none 0 0] 66 (0, 0)) ∧ wr.heap[w.heap.size + 1 + 1 + 1]? = some (.cells #[.int .i64 0, .int .i64 0, .int .i64 0, .slice none 0 0] 127 (0, 0)) ∧ wr.ownsRow X.heap.size 175 10 (.slice aw l.length cw) l.length (wkRow l)) := fun wr hk => by
    have hlow : ∀ b, (Value.slice a2 x.san c2).ownBlock = some b → V.heap.size ≤ b := fun b e => (HOY.out.ld.row.lt b e).1
    exact ⟨Kept.below hb0 hb0.size hk (fun b e => Nat.le_trans hszV (hlow b e)), hk.blk b0 (fun e => by have := hlow _ e; omega), hk.blk b1 (fun e => by have := hlow _ e; omega), hk.blk b2 (fun e => by have := hlow _ e; omega), hk.blk b3 (fun e => by have := hlow _ e; omega), hk.own HWK.out (fun g h1 h2 => own_apart HOY.out.ld.row HWK.out (by decide) g h2 h1)⟩
  go_wp2
  go_loopw [11, 12, 30] (fun _ _ i wr => ∃ (j : Nat) (M : Nat → Load) (A B D : Nat → Value), j ≤ l.length ∧ i = .int .i64 j ∧ Hid (Stand x l j M) ∧ Hid (OwnOff wr V.heap.size (.slice a1 x.san c1) (.slice a2 x.san c2) (.slice a3 x.bkn c3) x.san x.san x.bkn { x with ld := M } L C A B D E) ∧ Hid (wr.heap[qb]? = some (.cells #[.slice a1 x.san c1, .slice a2 x.san c2, .slice a3 x.bkn c3] 66 (0, 0))) ∧ Hid (Kept Y wr (fun b => (Value.slice a2 x.san c2).ownBlock = some b))) (fun _ _ i _ => l.length - (intOf i).toNat)
  case atStart => exact ⟨0, x.ld, _, _, _, Nat.zero_le _, rfl, Stand.start HG.out.1 (fun v hv => (HWF.out.2 v hv).1), HOY.out, bQ, Kept.refl _ _⟩
  case round =>
    clear b0 b1 b2 b3 bQ hb0
    obtain ⟨j, M, A, B, D, hj, rfl, HST, HOR, HBQ, HKR⟩ := hrel
    obtain ⟨hbr, b0, b1, b2, b3, hwr⟩ := HALL.out wr HKR.out
    by_cases hlt : j < l.length
    · obtain ⟨v, hv⟩ : ∃ v, l[j]? = some v := ⟨l[j], List.getElem?_eq_getElem hlt⟩
      have HV : Hid (l[j]? = some v) := hv
      have HWV : Hid (WkOk x v) := (HWF.out.2 v (List.mem_of_getElem? hv)).2
      obtain ⟨gw, rfl, _, hgw⟩ := own_addr hwr (by omega)
      have HCW : Hid (∀ r u, r < 10 → (wkC v)[r]? = some u → wr.cell? ⟨gw, j * 10 + r, none⟩ = some u) := fun r u hr hu => by
        rw [hwr.cellAt (j * 10 + r) (by omega), wkRow_get l j v HV.out r hr]
        exact hu
      have cw0 : wr.cell? ⟨gw, j * 10, none⟩ = some (.int .i64 v.leg) := HCW.out 0 _ (by decide) rfl
      have cw1 := HCW.out 1 _ (by decide) rfl
      have cw2 := HCW.out 2 _ (by decide) rfl
      have cw3 := HCW.out 3 _ (by decide) rfl
      have cw4 := HCW.out 4 _ (by decide) rfl
      have cw5 := HCW.out 5 _ (by decide) rfl
      have cw6 := HCW.out 6 _ (by decide) rfl
      have cw7 := HCW.out 7 _ (by decide) rfl
      have cw8 := HCW.out 8 _ (by decide) rfl
      have cw9 := HCW.out 9 _ (by decide) rfl
      clear hv hwr
      obtain ⟨k, hk⟩ : ∃ k, findIx x.sa v.leg x.san = k := ⟨_, rfl⟩
      have HK : Hid (findIx x.sa v.leg x.san = k) := hk
      have HKL : Hid (k < x.san) := by have h := HWV.out.2.1; rw [hk] at h; exact h
      clear hk
      have i1 : (0 : Int) ≤ (j : Int) := by omega
      have i2 : (j : Int) < (l.length : Int) := by omega
      go_wp2_with fail
      have hpR : Below wr.heap.size wr (wr.alloc (.cells #[.int .i64 v.leg, .int .i64 (v.res : Int), .bool v.goes, .int .i64 v.who, .int .i64 v.p.pe, .int .i64 v.p.len, .int .i64 v.p.hei, .int .i64 v.p.cl, .bool v.p.all, .int .i64 v.p.be] 175)) := push (Below.refl _ _) _
      have HOA : Hid (OwnOff (wr.alloc (.cells #[.int .i64 v.leg, .int .i64 (v.res : Int), .bool v.goes, .int .i64 v.who, .int .i64 v.p.pe, .int .i64 v.p.len, .int .i64 v.p.hei, .int .i64 v.p.cl, .bool v.p.all, .int .i64 v.p.be] 175)) V.heap.size (.slice a1 x.san c1) (.slice a2 x.san c2) (.slice a3 x.bkn c3) x.san x.san x.bkn { x with ld := M } L C A B D E) := HOR.out.below hpR
      have HBA : Hid ((wr.alloc (.cells #[.int .i64 v.leg, .int .i64 (v.res : Int), .bool v.goes, .int .i64 v.who, .int .i64 v.p.pe, .int .i64 v.p.len, .int .i64 v.p.hei, .int .i64 v.p.cl, .bool v.p.all, .int .i64 v.p.be] 175)).heap[qb]? = some (.cells #[.slice a1 x.san c1, .slice a2 x.san c2, .slice a3 x.bkn c3] 66 (0, 0))) := blk_alloc HBQ.out _
      have HKA : Hid (Kept Y (wr.alloc (.cells #[.int .i64 v.leg, .int .i64 (v.res : Int), .bool v.goes, .int .i64 v.who, .int .i64 v.p.pe, .int .i64 v.p.len, .int .i64 v.p.hei, .int .i64 v.p.cl, .bool v.p.all, .int .i64 v.p.be] 175)) (fun b => (Value.slice a2 x.san c2).ownBlock = some b)) := HKR.out.trans (Kept.of_below hpR)
      generalize wr.alloc (.cells #[.int .i64 v.leg, .int .i64 (v.res : Int), .bool v.goes, .int .i64 v.who, .int .i64 v.p.pe, .int .i64 v.p.len, .int .i64 v.p.hei, .int .i64 v.p.cl, .bool v.p.all, .int .i64 v.p.be] 175) = wa at hpR HOA HBA HKA ⊢
      clear cw0 cw1 cw2 cw3 cw4 cw5 cw6 cw7 cw8 cw9 b0 b1 b2 b3 hbr hpR
      refine (l7Do_any qb V.heap.size x.san x.bkn k c1 c2 c3 a1 a2 a3 v { x with ld := M } L C A B D E wa HBA.out HOA.out (by omega) HK.out HKL.out (HST.out.good k HKL.out) HWV.out.1 (fun hg => HST.out.there HV.out HK.out HKL.out hg) (fun hg => by have h := (HWV.out.2.2 hg).2.1.1; unfold In at h ⊢; omega)).mono ?_
      rintro e wd ⟨code, z, A', B', D', rfl, hwi, hod, hqd, hkd⟩
      have HWI : Hid (WorkIs (x.sa k) v (M k) code z) := hwi
      have HOD : Hid (OwnOff wd V.heap.size (.slice a1 x.san c1) (.slice a2 x.san c2) (.slice a3 x.bkn c3) x.san x.san x.bkn { x with ld := setL M k z } L C A' B' D' E) := hod
      have HQD : Hid _ := hqd
      have HKD : Hid (Kept Y wd (fun b => (Value.slice a2 x.san c2).ownBlock = some b)) := HKA.out.trans hkd
      clear hwi hod hqd hkd
      by_cases hc : code = 0
      · subst hc
        go_wp2
        go_roundw
        case rel => exact ⟨j + 1, setL M k z, A', B', D', by omega, by go_num, HST.out.next HWF.out.1 HV.out HK.out HKL.out HWV.out HWI.out, HOD.out, HQD.out, HKD.out⟩
        case measure => simp [intOf]; omega
      · have d1 : (code != 0) = true := by simpa using hc
        have d2 : (code == 0) = false := by simpa using hc
        have HC : Hid (code ≠ 0) := hc
        clear hc
        obtain ⟨hbr, b0, b1, b2, b3, _⟩ := HALL.out wd HKD.out
        have hzM : z = M k := by
          rcases HWI.out.on (HST.out.good k HKL.out) (HST.out.comes HV.out HK.out HKL.out HWV.out) with ⟨h, _⟩ | ⟨_, h⟩
          · exact absurd h HC.out
          · exact h
        have HWZ : Hid (WorkIs (x.sa k) v (M k) code (M k)) := by have h := HWI.out; rw [hzM] at h; exact h
        clear hzM
        have f0 := blk_cell b0 0 _ rfl
        have f1 := blk_cell b0 1 _ rfl
        have f2 := blk_cell b0 2 _ rfl
        go_wp2_with fail
        refine (l7Own_any asa ald abk x.san x.ldn x.bkn csa cld cbk x _ rfl rfl rfl HS.out (HM.out.1.below hbr) (HM.out.2.1.below hbr) (HM.out.2.2.1.below hbr)).mono ?_
        rintro e V9 ⟨⟨a1, c1, a2, c2, a3, c3, L9, C9, A9, B9, D9, E9, rfl, HOW⟩, hb9⟩
        have hbw9 := after hbr hb9
        have r2 := blk_below b2 hb9
        have r3 := blk_below b3 hb9
        obtain ⟨HOF, rF2, rF3, hbF, _⟩ := op_fin hbw9 (HOW.lower hbr.size) r2 r3 (by omega) (by omega) (.int .i64 code) (.int .i64 0) (.int .i64 0) (.slice none 0 0) rfl
        have HOG : Hid _ := HOF
        have HBG : Hid _ := hbF
        clear HOF hbF HOW
        have s0 := blk_cell r2 0 _ rfl
        have sf0 := blk_free r2 0
        have s1 := blk_cell r2 1 _ rfl
        have sf1 := blk_free r2 1
        have s2 := blk_cell r2 2 _ rfl
        have sf2 := blk_free r2 2
        have t0 := blk_cell r3 0 _ rfl
        have tf0 := blk_free r3 0
        have t1 := blk_cell r3 1 _ rfl
        have tf1 := blk_free r3 1
        have t2 := blk_cell r3 2 _ rfl
        have tf2 := blk_free r3 2
        have t3 := blk_cell r3 3 _ rfl
        have tf3 := blk_free r3 3
        go_wp2
        have x0 := blk_cell rF2 0 _ rfl
        have x1 := blk_cell rF2 1 _ rfl
        have x2 := blk_cell rF2 2 _ rfl
        have z0 := blk_cell rF3 0 _ rfl
        have z1 := blk_cell rF3 1 _ rfl
        have z2 := blk_cell rF3 2 _ rfl
        have z3 := blk_cell rF3 3 _ rfl
        exact bodyPost_ret (v := .tuple #[.agg #[.slice a1 x.san c1, .slice a2 x.ldn c2, .slice a3 x.bkn c3], .agg #[.int .i64 code, .int .i64 0, .int .i64 0, .slice none 0 0]]) (by simp [results, Tryz.results104, go_sem, x0, x1, x2, z0, z1, z2, z3]) rfl ⟨⟨x, _, _, _, _, _, _, _, _, _, _, _, _, _, _, _, _, rfl, HOG.out, .inr (.inl ⟨HNF.out, HC.out, rfl, rfl, rfl, j, M, v, k, by rw [← HL.out]; exact HST.out, by rw [← HL.out]; exact HV.out, HK.out, HKL.out, HWZ.out⟩), .inl rfl⟩, HBG.out⟩
    · obtain rfl : j = l.length := by omega
      have h0 := blk_cell b1 0 _ rfl
      have h1 := blk_cell b1 1 _ rfl
      have h2 := blk_cell b1 2 _ rfl
      have h3 := blk_cell b1 3 _ rfl
      have h4 := blk_cell b1 4 _ rfl
      have h5 := blk_cell b1 5 _ rfl
      have h6 := blk_cell b1 6 _ rfl
      have h7 := blk_cell b1 7 _ rfl
      have h8 := blk_cell b1 8 _ rfl
      have h9 := blk_cell b1 9 _ rfl
      have h10 := blk_cell b1 10 _ rfl
      have h11 := blk_cell b1 11 _ rfl
      go_wp2_with fail
      refine (l7End_any qb V.heap.size x.san x.bkn c1 c2 c3 clg m a1 a2 a3 alg bys y { x with ld := M } L C A B D E wr HBQ.out HOR.out rfl rfl HLN.out (Nat.le_trans (Nat.le_trans hszq (Nat.le_of_lt (Nat.lt_of_lt_of_le hqX hszX))) HKR.out.size) (HM.out.2.2.2.1.below hbr) HM.out.2.2.2.2 (fun h0 a ea => by obtain ⟨b', off', e', hc'⟩ := HM.out.2.2.2.1 0 h0; rw [ea] at e'; cases e'; have h1 := World.block_lt_of_cell? w _ hc'; have h2 : b' < w.heap.size := h1; show b' < V.heap.size; omega) HNF.out HG.out.1.1 hB30 ⟨HS.out.1, ⟨HS.out.2.1.1, fun i hi => by have h := HST.out.good i (by have := HLN.out; have h9 : i < x.ldn := hi; omega); exact ⟨by have := ((deck_iff _ _ _).1 h.1).2.1; show (M i).stn ≤ _; omega, by have := h.2.1.2.1; show (M i).ron ≤ _; omega, by have := h.2.2.2.1; show (M i).sen ≤ _; omega⟩⟩, HS.out.2.2⟩ (fun i hi => (HG.out.1.2.2.2.2.1 i hi).2.2.2.1)).mono ?_
      rintro e we ⟨x3, code, name, price, het, a3', c3', rv, E', rfl, hrw, hoe, hqe, hke⟩
      obtain ⟨ra, rn, rc, rfl⟩ : ∃ ra rn rc, rv = .slice ra rn rc := by
        by_cases h9 : y.kind = 9
        · obtain ⟨_, _, _, h3⟩ := hrw.1 h9
          obtain ⟨ao, c, e, _⟩ := own_form h3
          exact ⟨ao, _, c, e⟩
        · exact ⟨none, 0, 0, hrw.2 h9⟩
      have HET : Hid (EndTo { x with ld := M } bys y m x3 code name price) := het
      have HRW : Hid (RowsAre { x with ld := M } y wr.heap.size we (.slice ra rn rc)) := hrw
      have HOE : Hid (OwnOff we V.heap.size (.slice a1 x.san c1) (.slice a2 x.san c2) (.slice a3' x3.bkn c3') x.san x.san x3.bkn x3 L C A B D E') := hoe
      have hlow : ∀ b, b = qb ∨ (Value.slice a3 x.bkn c3).ownBlock = some b → V.heap.size ≤ b := fun b e => by
        rcases e with e | e
        · omega
        · exact (HOR.out.bk.row.lt b e).1
      replace b0 := hke.blk b0 (fun e => by have := hlow _ e; omega)
      replace b1 := hke.blk b1 (fun e => by have := hlow _ e; omega)
      replace b2 := hke.blk b2 (fun e => by have := hlow _ e; omega)
      replace b3 := hke.blk b3 (fun e => by have := hlow _ e; omega)
      replace hbr := Kept.below hbr hbr.size hke (fun b e => by have := hlow _ e; omega)
      clear h0 h1 h2 h3 h4 h5 h6 h7 h8 h9 h10 h11 het hrw hoe hke hlow
      have hk1 : ∀ o, (we.alloc o).cell? ⟨w.heap.size + 1, 0, none⟩ = some (.int .i64 y.kind) := fun o => blk_cell (blk_alloc b1 o) 0 _ rfl
      by_cases hc : code = 0 ∧ y.kind ≠ 1
      case neg =>
        have HC : Hid (code ≠ 0 ∨ y.kind = 1) := by
          by_cases h : code = 0
          · exact .inr (by by_cases h2 : y.kind = 1; exact h2; exact absurd ⟨h, h2⟩ hc)
          · exact .inl h
        have hrn := HRW.out.2 (HET.out.nine HC.out)
        cases hrn
        clear hc
        by_cases hc : code = 0
        · have hk : y.kind = 1 := by rcases HC.out with h | h; exact absurd hc h; exact h
          subst hc
          have d1 : (y.kind == 1) = true := by simpa using hk
          have hkk := hk
          clear hk
          have bT := heap_alloc_new we (.cells #[.int .i64 0, .int .i64 name, .int .i64 price, .slice none 0 0] 127)
          have h3w : w.heap.size + 1 + 1 + 1 < we.heap.size := blk_lt b3
          go_upto_region 14 with fail
          replace b0 := blk_alloc b0 (.cells #[.int .i64 0, .int .i64 name, .int .i64 price, .slice none 0 0] 127)
          have b2w := b2
          have b3w := b3
          replace b2 := blk_alloc b2 (.cells #[.int .i64 0, .int .i64 name, .int .i64 price, .slice none 0 0] 127)
          replace b3 := blk_alloc b3 (.cells #[.int .i64 0, .int .i64 name, .int .i64 price, .slice none 0 0] 127)
          replace hbr := push hbr (.cells #[.int .i64 0, .int .i64 name, .int .i64 price, .slice none 0 0] 127)
          have hqf := blk_alloc hqe (.cells #[.int .i64 0, .int .i64 name, .int .i64 price, .slice none 0 0] 127)
          have HOf : Hid _ := HOE.out.below (push (Below.refl _ _) (.cells #[.int .i64 0, .int .i64 name, .int .i64 price, .slice none 0 0] 127))
          have HRf : Hid (Kept we (we.alloc (.cells #[.int .i64 0, .int .i64 name, .int .i64 price, .slice none 0 0] 127)) (fun b => b = w.heap.size + 1 + 1 ∨ b = w.heap.size + 1 + 1 + 1)) := Kept.of_below (push (Below.refl _ _) _)
          generalize we.alloc (.cells #[.int .i64 0, .int .i64 name, .int .i64 price, .slice none 0 0] 127) = wf at bT b0 b2 b3 hbr hqf HOf HRf ⊢
          generalize we.heap.size = tb at bT h3w ⊢
          have p0 := b0
          have pT := bT
          have KS : Hid (∀ z : World, z.heap[w.heap.size]? = some (.cells #[.slice asa x.san csa, .slice ald x.ldn cld, .slice abk x.bkn cbk] 66 (0, 0)) → z.heap[tb]? = some (.cells #[.int .i64 0, .int .i64 name, .int .i64 price, .slice none 0 0] 127 (0, 0)) → z.cell? ⟨w.heap.size, 0, none⟩ = some (.slice asa x.san csa) ∧ z.cell? ⟨w.heap.size, 1, none⟩ = some (.slice ald x.ldn cld) ∧ z.cell? ⟨w.heap.size, 2, none⟩ = some (.slice abk x.bkn cbk) ∧ z.cell? ⟨tb, 0, none⟩ = some (.int .i64 0) ∧ z.cell? ⟨tb, 1, none⟩ = some (.int .i64 name) ∧ z.cell? ⟨tb, 2, none⟩ = some (.int .i64 price) ∧ z.cell? ⟨tb, 3, none⟩ = some (.slice none 0 0)) := fun z h1 h2 => ⟨blk_cell h1 0 _ rfl, blk_cell h1 1 _ rfl, blk_cell h1 2 _ rfl, blk_cell h2 0 _ rfl, blk_cell h2 1 _ rfl, blk_cell h2 2 _ rfl, blk_cell h2 3 _ rfl⟩
          have HCC : Hid (∀ Z, Below wf.heap.size wf Z → Calls Tryz.prog 101 #[.agg #[.slice asa x.san csa, .slice ald x.ldn cld, .slice abk x.bkn cbk]] Z fun e u => (∃ d1 e1 d2 e2 d3 e3 L C A B D E, e = .returned (.agg #[.slice d1 x.san e1, .slice d2 x.ldn e2, .slice d3 x.bkn e3]) ∧ Hid (OwnOff u w.heap.size (.slice d1 x.san e1) (.slice d2 x.ldn e2) (.slice d3 x.bkn e3) x.san x.ldn x.bkn x L C A B D E)) ∧ Below wf.heap.size wf u) := fun Z hZ => by
            refine (l7Own_any asa ald abk x.san x.ldn x.bkn csa cld cbk x Z rfl rfl rfl HS.out (HM.out.1.below (after hbr hZ)) (HM.out.2.1.below (after hbr hZ)) (HM.out.2.2.1.below (after hbr hZ))).mono ?_
            rintro e u ⟨⟨d1, e1, d2, e2, d3, e3, L', C', A', B', D', E', rfl, h⟩, hb⟩
            exact ⟨⟨d1, e1, d2, e2, d3, e3, L', C', A', B', D', E', rfl, h.lower (after hbr hZ).size⟩, after hZ hb⟩
          go_region_held3 (fun w' => w'.cell? ⟨w.heap.size, 0, none⟩ = some (.slice asa x.san csa) ∧ w'.cell? ⟨w.heap.size, 1, none⟩ = some (.slice ald x.ldn cld) ∧ w'.cell? ⟨w.heap.size, 2, none⟩ = some (.slice abk x.bkn cbk) ∧ w'.cell? ⟨tb, 0, none⟩ = some (.int .i64 0) ∧ w'.cell? ⟨tb, 1, none⟩ = some (.int .i64 name) ∧ w'.cell? ⟨tb, 2, none⟩ = some (.int .i64 price) ∧ w'.cell? ⟨tb, 3, none⟩ = some (.slice none 0 0))
            (first | (refine KS.out _ ?_ ?_ <;> (repeat (first | with_reducible exact p0 | with_reducible exact pT | (with_reducible refine blk_drew ?_) | (with_reducible refine blk_set_other ?_ _ _ ?_; rotate_left; (focus omega))))))
            (first
              | (go_simp; go_at_call 101; (with_reducible refine Calls.mono (HCC.out _ ?_) ?_); (focus (repeat (first | exact Below.refl _ _ | refine Below.drew ?_ | refine push ?_ _))); rintro e u2 ⟨⟨d1, e1, d2, e2, d3, e3, L9, C9, A9, B9, D9, E9, rfl, HOW⟩, hb2⟩; have HB2 : Hid (Below wf.heap.size wf u2) := hb2; replace p0 := blk_below p0 hb2; replace pT := blk_below pT hb2; have r2 := blk_below b2 hb2; have r3 := blk_below b3 hb2; have s0 := blk_cell r2 0 _ rfl; have sf0 := blk_free r2 0; have s1 := blk_cell r2 1 _ rfl; have sf1 := blk_free r2 1; have s2 := blk_cell r2 2 _ rfl; have sf2 := blk_free r2 2; have t0 := blk_cell r3 0 _ rfl; have tf0 := blk_free r3 0; have t1 := blk_cell r3 1 _ rfl; have tf1 := blk_free r3 1; have t2 := blk_cell r3 2 _ rfl; have tf2 := blk_free r3 2; have t3 := blk_cell r3 3 _ rfl; have tf3 := blk_free r3 3; dsimp only))
          · have hbu := after hbr HB2.out
            obtain ⟨HOF, rF2, rF3, hbF, hkF⟩ := op_fin hbu HOW.out r2 r3 (by omega) (by omega) (.int .i64 0) (.int .i64 name) (.int .i64 price) (.slice none 0 0) rfl
            have HOG : Hid _ := HOF
            have HBG : Hid _ := hbF
            have HKG : Hid _ := hkF
            clear HOF hbF hkF
            have x0 := blk_cell rF2 0 _ rfl
            have x1 := blk_cell rF2 1 _ rfl
            have x2 := blk_cell rF2 2 _ rfl
            have z0 := blk_cell rF3 0 _ rfl
            have z1 := blk_cell rF3 1 _ rfl
            have z2 := blk_cell rF3 2 _ rfl
            have z3 := blk_cell rF3 3 _ rfl
            go_wp2
            exact bodyPost_ret (v := .tuple #[.agg #[.slice d1 x.san e1, .slice d2 x.ldn e2, .slice d3 x.bkn e3], .agg #[.int .i64 0, .int .i64 name, .int .i64 price, .slice none 0 0]]) (by simp [results, Tryz.results104, go_sem, x0, x1, x2, z0, z1, z2, z3]) rfl ⟨⟨x, _, _, _, _, _, _, _, _, _, _, _, _, _, _, _, _, rfl, HOG.out, .inr (.inr ⟨HNF.out, M, x3, by rw [← HL.out]; exact HST.out, HET.out, fun _ => rfl, fun h => absurd HC.out h⟩), .inl rfl⟩, HBG.out⟩
        · have d1 : (code != 0) = true := by simpa using hc
          have d2 : (code == 0) = false := by simpa using hc
          clear hc
          have bT := heap_alloc_new we (.cells #[.int .i64 code, .int .i64 name, .int .i64 price, .slice none 0 0] 127)
          have h3w : w.heap.size + 1 + 1 + 1 < we.heap.size := blk_lt b3
          go_upto_region 14 with fail
          replace b0 := blk_alloc b0 (.cells #[.int .i64 code, .int .i64 name, .int .i64 price, .slice none 0 0] 127)
          have b2w := b2
          have b3w := b3
          replace b2 := blk_alloc b2 (.cells #[.int .i64 code, .int .i64 name, .int .i64 price, .slice none 0 0] 127)
          replace b3 := blk_alloc b3 (.cells #[.int .i64 code, .int .i64 name, .int .i64 price, .slice none 0 0] 127)
          replace hbr := push hbr (.cells #[.int .i64 code, .int .i64 name, .int .i64 price, .slice none 0 0] 127)
          have hqf := blk_alloc hqe (.cells #[.int .i64 code, .int .i64 name, .int .i64 price, .slice none 0 0] 127)
          have HOf : Hid _ := HOE.out.below (push (Below.refl _ _) (.cells #[.int .i64 code, .int .i64 name, .int .i64 price, .slice none 0 0] 127))
          have HRf : Hid (Kept we (we.alloc (.cells #[.int .i64 code, .int .i64 name, .int .i64 price, .slice none 0 0] 127)) (fun b => b = w.heap.size + 1 + 1 ∨ b = w.heap.size + 1 + 1 + 1)) := Kept.of_below (push (Below.refl _ _) _)
          generalize we.alloc (.cells #[.int .i64 code, .int .i64 name, .int .i64 price, .slice none 0 0] 127) = wf at bT b0 b2 b3 hbr hqf HOf HRf ⊢
          generalize we.heap.size = tb at bT h3w ⊢
          have p0 := b0
          have pT := bT
          have KS : Hid (∀ z : World, z.heap[w.heap.size]? = some (.cells #[.slice asa x.san csa, .slice ald x.ldn cld, .slice abk x.bkn cbk] 66 (0, 0)) → z.heap[tb]? = some (.cells #[.int .i64 code, .int .i64 name, .int .i64 price, .slice none 0 0] 127 (0, 0)) → z.cell? ⟨w.heap.size, 0, none⟩ = some (.slice asa x.san csa) ∧ z.cell? ⟨w.heap.size, 1, none⟩ = some (.slice ald x.ldn cld) ∧ z.cell? ⟨w.heap.size, 2, none⟩ = some (.slice abk x.bkn cbk) ∧ z.cell? ⟨tb, 0, none⟩ = some (.int .i64 code) ∧ z.cell? ⟨tb, 1, none⟩ = some (.int .i64 name) ∧ z.cell? ⟨tb, 2, none⟩ = some (.int .i64 price) ∧ z.cell? ⟨tb, 3, none⟩ = some (.slice none 0 0)) := fun z h1 h2 => ⟨blk_cell h1 0 _ rfl, blk_cell h1 1 _ rfl, blk_cell h1 2 _ rfl, blk_cell h2 0 _ rfl, blk_cell h2 1 _ rfl, blk_cell h2 2 _ rfl, blk_cell h2 3 _ rfl⟩
          have HCC : Hid (∀ Z, Below wf.heap.size wf Z → Calls Tryz.prog 101 #[.agg #[.slice asa x.san csa, .slice ald x.ldn cld, .slice abk x.bkn cbk]] Z fun e u => (∃ d1 e1 d2 e2 d3 e3 L C A B D E, e = .returned (.agg #[.slice d1 x.san e1, .slice d2 x.ldn e2, .slice d3 x.bkn e3]) ∧ Hid (OwnOff u w.heap.size (.slice d1 x.san e1) (.slice d2 x.ldn e2) (.slice d3 x.bkn e3) x.san x.ldn x.bkn x L C A B D E)) ∧ Below wf.heap.size wf u) := fun Z hZ => by
            refine (l7Own_any asa ald abk x.san x.ldn x.bkn csa cld cbk x Z rfl rfl rfl HS.out (HM.out.1.below (after hbr hZ)) (HM.out.2.1.below (after hbr hZ)) (HM.out.2.2.1.below (after hbr hZ))).mono ?_
            rintro e u ⟨⟨d1, e1, d2, e2, d3, e3, L', C', A', B', D', E', rfl, h⟩, hb⟩
            exact ⟨⟨d1, e1, d2, e2, d3, e3, L', C', A', B', D', E', rfl, h.lower (after hbr hZ).size⟩, after hZ hb⟩
          go_region_held3 (fun w' => w'.cell? ⟨w.heap.size, 0, none⟩ = some (.slice asa x.san csa) ∧ w'.cell? ⟨w.heap.size, 1, none⟩ = some (.slice ald x.ldn cld) ∧ w'.cell? ⟨w.heap.size, 2, none⟩ = some (.slice abk x.bkn cbk) ∧ w'.cell? ⟨tb, 0, none⟩ = some (.int .i64 code) ∧ w'.cell? ⟨tb, 1, none⟩ = some (.int .i64 name) ∧ w'.cell? ⟨tb, 2, none⟩ = some (.int .i64 price) ∧ w'.cell? ⟨tb, 3, none⟩ = some (.slice none 0 0))
            (first | (refine KS.out _ ?_ ?_ <;> (repeat (first | with_reducible exact p0 | with_reducible exact pT | (with_reducible refine blk_drew ?_) | (with_reducible refine blk_set_other ?_ _ _ ?_; rotate_left; (focus omega))))))
            (first
              | (go_simp; go_at_call 101; (with_reducible refine Calls.mono (HCC.out _ ?_) ?_); (focus (repeat (first | exact Below.refl _ _ | refine Below.drew ?_ | refine push ?_ _))); rintro e u2 ⟨⟨d1, e1, d2, e2, d3, e3, L9, C9, A9, B9, D9, E9, rfl, HOW⟩, hb2⟩; have HB2 : Hid (Below wf.heap.size wf u2) := hb2; replace p0 := blk_below p0 hb2; replace pT := blk_below pT hb2; have r2 := blk_below b2 hb2; have r3 := blk_below b3 hb2; have s0 := blk_cell r2 0 _ rfl; have sf0 := blk_free r2 0; have s1 := blk_cell r2 1 _ rfl; have sf1 := blk_free r2 1; have s2 := blk_cell r2 2 _ rfl; have sf2 := blk_free r2 2; have t0 := blk_cell r3 0 _ rfl; have tf0 := blk_free r3 0; have t1 := blk_cell r3 1 _ rfl; have tf1 := blk_free r3 1; have t2 := blk_cell r3 2 _ rfl; have tf2 := blk_free r3 2; have t3 := blk_cell r3 3 _ rfl; have tf3 := blk_free r3 3; dsimp only))
          · have hbu := after hbr HB2.out
            obtain ⟨HOF, rF2, rF3, hbF, hkF⟩ := op_fin hbu HOW.out r2 r3 (by omega) (by omega) (.int .i64 code) (.int .i64 name) (.int .i64 price) (.slice none 0 0) rfl
            have HOG : Hid _ := HOF
            have HBG : Hid _ := hbF
            have HKG : Hid _ := hkF
            clear HOF hbF hkF
            have x0 := blk_cell rF2 0 _ rfl
            have x1 := blk_cell rF2 1 _ rfl
            have x2 := blk_cell rF2 2 _ rfl
            have z0 := blk_cell rF3 0 _ rfl
            have z1 := blk_cell rF3 1 _ rfl
            have z2 := blk_cell rF3 2 _ rfl
            have z3 := blk_cell rF3 3 _ rfl
            go_wp2
            exact bodyPost_ret (v := .tuple #[.agg #[.slice d1 x.san e1, .slice d2 x.ldn e2, .slice d3 x.bkn e3], .agg #[.int .i64 code, .int .i64 name, .int .i64 price, .slice none 0 0]]) (by simp [results, Tryz.results104, go_sem, x0, x1, x2, z0, z1, z2, z3]) rfl ⟨⟨x, _, _, _, _, _, _, _, _, _, _, _, _, _, _, _, _, rfl, HOG.out, .inr (.inr ⟨HNF.out, M, x3, by rw [← HL.out]; exact HST.out, HET.out, fun _ => rfl, fun h => absurd HC.out h⟩), .inl rfl⟩, HBG.out⟩
      obtain ⟨hc, hk⟩ := hc
      subst hc
      have d1 : (y.kind == 1) = false := by simpa using hk
      have HKN : Hid (y.kind ≠ 1) := hk
      clear hk
      have hsz3 : x3.san = x.san ∧ x3.ldn = x.san := ⟨HET.out.size.1, HET.out.size.2.trans HLN.out⟩
      obtain ⟨sn3, sa3, ln3, ld3, bn3, bk3⟩ := x3
      obtain ⟨e1, e2⟩ := hsz3
      dsimp only at e1 e2 hqe
      subst e1
      subst e2
      have HOE2 : Hid (OwnOff we V.heap.size (.slice a1 x.san c1) (.slice a2 x.san c2) (.slice a3' bn3 c3') x.san x.san bn3 ⟨x.san, sa3, x.san, ld3, bn3, bk3⟩ L C A B D E') := HOE.out
      have bT := heap_alloc_new we (.cells #[.int .i64 0, .int .i64 name, .int .i64 price, .slice ra rn rc] 127)
      have h3w : w.heap.size + 1 + 1 + 1 < we.heap.size := blk_lt b3
      go_upto_region 15 with fail
      replace b0 := blk_alloc b0 (.cells #[.int .i64 0, .int .i64 name, .int .i64 price, .slice ra rn rc] 127)
      have b2w := b2
      have b3w := b3
      replace b2 := blk_alloc b2 (.cells #[.int .i64 0, .int .i64 name, .int .i64 price, .slice ra rn rc] 127)
      replace b3 := blk_alloc b3 (.cells #[.int .i64 0, .int .i64 name, .int .i64 price, .slice ra rn rc] 127)
      replace hbr := push hbr (.cells #[.int .i64 0, .int .i64 name, .int .i64 price, .slice ra rn rc] 127)
      have hqf := blk_alloc hqe (.cells #[.int .i64 0, .int .i64 name, .int .i64 price, .slice ra rn rc] 127)
      have HOf : Hid _ := HOE2.out.below (push (Below.refl _ _) (.cells #[.int .i64 0, .int .i64 name, .int .i64 price, .slice ra rn rc] 127))
      have HRf : Hid (Kept we (we.alloc (.cells #[.int .i64 0, .int .i64 name, .int .i64 price, .slice ra rn rc] 127)) (fun b => b = w.heap.size + 1 + 1 ∨ b = w.heap.size + 1 + 1 + 1)) := Kept.of_below (push (Below.refl _ _) _)
      generalize we.alloc (.cells #[.int .i64 0, .int .i64 name, .int .i64 price, .slice ra rn rc] 127) = wf at bT b0 b2 b3 hbr hqf HOf HRf ⊢
      generalize we.heap.size = tb at bT h3w ⊢
      have p0 := hqf
      have pT := bT
      have KS : Hid (∀ z : World, z.heap[qb]? = some (.cells #[.slice a1 x.san c1, .slice a2 x.san c2, .slice a3' bn3 c3'] 66 (0, 0)) → z.heap[tb]? = some (.cells #[.int .i64 0, .int .i64 name, .int .i64 price, .slice ra rn rc] 127 (0, 0)) → z.cell? ⟨qb, 0, none⟩ = some (.slice a1 x.san c1) ∧ z.cell? ⟨qb, 1, none⟩ = some (.slice a2 x.san c2) ∧ z.cell? ⟨qb, 2, none⟩ = some (.slice a3' bn3 c3') ∧ z.cell? ⟨tb, 0, none⟩ = some (.int .i64 0) ∧ z.cell? ⟨tb, 1, none⟩ = some (.int .i64 name) ∧ z.cell? ⟨tb, 2, none⟩ = some (.int .i64 price) ∧ z.cell? ⟨tb, 3, none⟩ = some (.slice ra rn rc)) := fun z h1 h2 => ⟨blk_cell h1 0 _ rfl, blk_cell h1 1 _ rfl, blk_cell h1 2 _ rfl, blk_cell h2 0 _ rfl, blk_cell h2 1 _ rfl, blk_cell h2 2 _ rfl, blk_cell h2 3 _ rfl⟩
      have r2 := b2
      have r3 := b3
      have s0 := blk_cell r2 0 _ rfl
      have sf0 := blk_free r2 0
      have s1 := blk_cell r2 1 _ rfl
      have sf1 := blk_free r2 1
      have s2 := blk_cell r2 2 _ rfl
      have sf2 := blk_free r2 2
      have t0 := blk_cell r3 0 _ rfl
      have tf0 := blk_free r3 0
      have t1 := blk_cell r3 1 _ rfl
      have tf1 := blk_free r3 1
      have t2 := blk_cell r3 2 _ rfl
      have tf2 := blk_free r3 2
      have t3 := blk_cell r3 3 _ rfl
      have tf3 := blk_free r3 3
      go_region_held3 (fun w' => w'.cell? ⟨qb, 0, none⟩ = some (.slice a1 x.san c1) ∧ w'.cell? ⟨qb, 1, none⟩ = some (.slice a2 x.san c2) ∧ w'.cell? ⟨qb, 2, none⟩ = some (.slice a3' bn3 c3') ∧ w'.cell? ⟨tb, 0, none⟩ = some (.int .i64 0) ∧ w'.cell? ⟨tb, 1, none⟩ = some (.int .i64 name) ∧ w'.cell? ⟨tb, 2, none⟩ = some (.int .i64 price) ∧ w'.cell? ⟨tb, 3, none⟩ = some (.slice ra rn rc))
        (first | (refine KS.out _ ?_ ?_ <;> (repeat (first | with_reducible exact p0 | with_reducible exact pT | (with_reducible refine blk_drew ?_) | (with_reducible refine blk_set_other ?_ _ _ ?_; rotate_left; (focus omega))))))
        (fail)
      · have hbu := hbr
        obtain ⟨HOF, rF2, rF3, hbF, hkF⟩ := op_fin hbu (HOf.out.lower hszV) r2 r3 (by omega) (by omega) (.int .i64 0) (.int .i64 name) (.int .i64 price) (.slice ra rn rc) rfl
        have HOG : Hid _ := HOF.below (Below.drew (Below.refl _ _))
        have HBG : Hid _ := Below.drew hbF
        have HKG : Hid _ := hkF.trans (Kept.of_below (Below.drew (Below.refl _ _)))
        clear HOF hbF hkF
        have x0 := blk_cell (blk_drew rF2) 0 _ rfl
        have x1 := blk_cell (blk_drew rF2) 1 _ rfl
        have x2 := blk_cell (blk_drew rF2) 2 _ rfl
        have z0 := blk_cell (blk_drew rF3) 0 _ rfl
        have z1 := blk_cell (blk_drew rF3) 1 _ rfl
        have z2 := blk_cell (blk_drew rF3) 2 _ rfl
        have z3 := blk_cell (blk_drew rF3) 3 _ rfl
        go_wp2
        refine bodyPost_ret (v := .tuple #[.agg #[.slice a1 x.san c1, .slice a2 x.san c2, .slice a3' bn3 c3'], .agg #[.int .i64 0, .int .i64 name, .int .i64 price, .slice ra rn rc]]) (by simp [results, Tryz.results104, go_sem, x0, x1, x2, z0, z1, z2, z3]) rfl ⟨⟨⟨x.san, sa3, x.san, ld3, bn3, bk3⟩, a1, c1, a2, c2, a3', c3', 0, name, price, .slice ra rn rc, L, C, A, B, D, E', rfl, ?_, ?_, ?_⟩, HBG.out⟩
        · exact HOG.out
        · exact .inr (.inr ⟨HNF.out, M, ⟨x.san, sa3, x.san, ld3, bn3, bk3⟩, by rw [← HL.out]; exact HST.out, HET.out, fun h => by rcases h with h | h; exact absurd rfl h; exact absurd h HKN.out, fun _ => rfl⟩)
        · exact .inr ⟨M, _, rows_kept HRW.out (HRf.out.trans HKG.out) (fun g e => by rcases e with e | e; exact ⟨_, _, by rw [e]; exact b2w, by decide⟩; exact ⟨_, _, by rw [e]; exact b3w, by decide⟩)⟩

end Go.Proofs.YtfallpinmhbemaaGreatDoor

namespace Go.Proofs.YtfallpinmhbemaaGreatDoor
open Go.RowKit

set_option maxHeartbeats 6400000 in
set_option maxRecDepth 100000 in
theorem l7Booking_raw (x : Off) (asa ald : Option Addr) (bb bo csa cld cbk : Nat) (i : Nat) (C : Nat → List Value) (w : World) (hi : i < x.bkn) (hs : Off.Short x 1048576)
    (hsa : SailsAt w asa x.san x.sa) (hC : RecsAt w (some ⟨bb, bo, none⟩) x.bkn 13 C) (hI : ∀ k, k < x.bkn → Book.Is w (C k) (x.bk k)) (hcb : x.bkn ≤ cbk) :
    Calls Tryz.prog 115 #[.agg #[.slice asa x.san csa, .slice ald x.ldn cld, .slice (some ⟨bb, bo, none⟩) x.bkn cbk], .int .i64 i] w fun e w' => SaysIf (BookOk x i) e ∧ Below w.heap.size w w' := by
  have HSA : Hid (SailsAt w asa x.san x.sa) := hsa
  have HC : Hid (RecsAt w (some ⟨bb, bo, none⟩) x.bkn 13 C) := hC
  have HI : Hid (∀ k, k < x.bkn → Book.Is w (C k) (x.bk k)) := hI
  have HSH : Hid (Off.Short x 1048576) := hs
  have hbk : x.bkn ≤ 1048576 := hs.2.2.1
  clear hsa hC hI hs
  obtain ⟨b0, off0, e0, hc⟩ := HC.out i hi
  simp only [Option.some.injEq, Addr.mk.injEq, and_true] at e0
  obtain ⟨rfl, rfl⟩ := e0
  obtain ⟨alg, clg, eC, hlg, slg⟩ := HI.out i hi
  obtain ⟨b, hb⟩ : ∃ b, b = x.bk i := ⟨_, rfl⟩
  rw [← hb] at eC hlg slg
  have HBK : Hid (b = x.bk i) := hb
  have HLG : Hid (IntsAt w alg b.lgn b.lg) := hlg
  have HSB : Hid (Book.Short b 1048576) := by rw [hb]; exact HSH.out.2.2.2 i hi
  have hltb : bb < w.heap.size := World.block_lt_of_cell? w _ (hc 0 (by decide))
  have g0 : w.cell? ⟨bb, bo + i * 13, none⟩ = some (.int .i64 b.name) := by have := hc 0 (by decide); rw [eC] at this; exact this
  have g1 : w.cell? ⟨bb, bo + i * 13 + 1, none⟩ = some (.int .i64 b.who) := by have := hc 1 (by decide); rw [eC] at this; exact this
  have g2 : w.cell? ⟨bb, bo + i * 13 + 2, none⟩ = some (.string b.own) := by have := hc 2 (by decide); rw [eC] at this; exact this
  have g3 : w.cell? ⟨bb, bo + i * 13 + 3, none⟩ = some (.slice alg b.lgn clg) := by have := hc 3 (by decide); rw [eC] at this; exact this
  have g4 : w.cell? ⟨bb, bo + i * 13 + 4, none⟩ = some (.int .i64 b.pe) := by have := hc 4 (by decide); rw [eC] at this; exact this
  have g5 : w.cell? ⟨bb, bo + i * 13 + 5, none⟩ = some (.int .i64 b.len) := by have := hc 5 (by decide); rw [eC] at this; exact this
  have g6 : w.cell? ⟨bb, bo + i * 13 + 6, none⟩ = some (.int .i64 b.hei) := by have := hc 6 (by decide); rw [eC] at this; exact this
  have g7 : w.cell? ⟨bb, bo + i * 13 + 7, none⟩ = some (.int .i64 b.cl) := by have := hc 7 (by decide); rw [eC] at this; exact this
  have g8 : w.cell? ⟨bb, bo + i * 13 + 8, none⟩ = some (.bool b.all) := by have := hc 8 (by decide); rw [eC] at this; exact this
  have g9 : w.cell? ⟨bb, bo + i * 13 + 9, none⟩ = some (.int .i64 b.be) := by have := hc 9 (by decide); rw [eC] at this; exact this
  have g10 : w.cell? ⟨bb, bo + i * 13 + 10, none⟩ = some (.int .i64 b.state) := by have := hc 10 (by decide); rw [eC] at this; exact this
  have g11 : w.cell? ⟨bb, bo + i * 13 + 11, none⟩ = some (.int .i64 b.unt) := by have := hc 11 (by decide); rw [eC] at this; exact this
  have g12 : w.cell? ⟨bb, bo + i * 13 + 12, none⟩ = some (.int .i64 b.price) := by have := hc 12 (by decide); rw [eC] at this; exact this
  have hb0 : Below w.heap.size w (w.alloc (.cells #[.slice asa x.san csa, .slice ald x.ldn cld, .slice (some ⟨bb, bo, none⟩) x.bkn cbk] 66)) := push (Below.refl _ _) _
  have bO := heap_alloc_new w (.cells #[.slice asa x.san csa, .slice ald x.ldn cld, .slice (some ⟨bb, bo, none⟩) x.bkn cbk] 66)
  have c0 : ∀ o, (w.alloc o).cell? ⟨bb, bo + i * 13, none⟩ = some (.int .i64 b.name) := fun o => ((push (Below.refl _ w) o).cell (p := ⟨bb, bo + i * 13, none⟩) hltb).trans g0
  have c1 : ∀ o, (w.alloc o).cell? ⟨bb, bo + i * 13 + 1, none⟩ = some (.int .i64 b.who) := fun o => ((push (Below.refl _ w) o).cell (p := ⟨bb, bo + i * 13 + 1, none⟩) hltb).trans g1
  have c2 : ∀ o, (w.alloc o).cell? ⟨bb, bo + i * 13 + 2, none⟩ = some (.string b.own) := fun o => ((push (Below.refl _ w) o).cell (p := ⟨bb, bo + i * 13 + 2, none⟩) hltb).trans g2
  have c3 : ∀ o, (w.alloc o).cell? ⟨bb, bo + i * 13 + 3, none⟩ = some (.slice alg b.lgn clg) := fun o => ((push (Below.refl _ w) o).cell (p := ⟨bb, bo + i * 13 + 3, none⟩) hltb).trans g3
  have c4 : ∀ o, (w.alloc o).cell? ⟨bb, bo + i * 13 + 4, none⟩ = some (.int .i64 b.pe) := fun o => ((push (Below.refl _ w) o).cell (p := ⟨bb, bo + i * 13 + 4, none⟩) hltb).trans g4
  have c5 : ∀ o, (w.alloc o).cell? ⟨bb, bo + i * 13 + 5, none⟩ = some (.int .i64 b.len) := fun o => ((push (Below.refl _ w) o).cell (p := ⟨bb, bo + i * 13 + 5, none⟩) hltb).trans g5
  have c6 : ∀ o, (w.alloc o).cell? ⟨bb, bo + i * 13 + 6, none⟩ = some (.int .i64 b.hei) := fun o => ((push (Below.refl _ w) o).cell (p := ⟨bb, bo + i * 13 + 6, none⟩) hltb).trans g6
  have c7 : ∀ o, (w.alloc o).cell? ⟨bb, bo + i * 13 + 7, none⟩ = some (.int .i64 b.cl) := fun o => ((push (Below.refl _ w) o).cell (p := ⟨bb, bo + i * 13 + 7, none⟩) hltb).trans g7
  have c8 : ∀ o, (w.alloc o).cell? ⟨bb, bo + i * 13 + 8, none⟩ = some (.bool b.all) := fun o => ((push (Below.refl _ w) o).cell (p := ⟨bb, bo + i * 13 + 8, none⟩) hltb).trans g8
  have c9 : ∀ o, (w.alloc o).cell? ⟨bb, bo + i * 13 + 9, none⟩ = some (.int .i64 b.be) := fun o => ((push (Below.refl _ w) o).cell (p := ⟨bb, bo + i * 13 + 9, none⟩) hltb).trans g9
  have c10 : ∀ o, (w.alloc o).cell? ⟨bb, bo + i * 13 + 10, none⟩ = some (.int .i64 b.state) := fun o => ((push (Below.refl _ w) o).cell (p := ⟨bb, bo + i * 13 + 10, none⟩) hltb).trans g10
  have c11 : ∀ o, (w.alloc o).cell? ⟨bb, bo + i * 13 + 11, none⟩ = some (.int .i64 b.unt) := fun o => ((push (Below.refl _ w) o).cell (p := ⟨bb, bo + i * 13 + 11, none⟩) hltb).trans g11
  have c12 : ∀ o, (w.alloc o).cell? ⟨bb, bo + i * 13 + 12, none⟩ = some (.int .i64 b.price) := fun o => ((push (Below.refl _ w) o).cell (p := ⟨bb, bo + i * 13 + 12, none⟩) hltb).trans g12
  clear hc eC hlg slg hb g0 g1 g2 g3 g4 g5 g6 g7 g8 g9 g10 g11 g12
  have hwi : IntKind.i64.wrap ((i : Int) + 1) = (i : Int) + 1 := by rw [IntKind.wrap_i64]; omega
  have hi0 : (0 : Int) ≤ (i : Int) := by omega
  have hi1 : (i : Int) < (x.bkn : Int) := by omega
  have hb1 : Below w.heap.size w ((w.alloc (.cells #[.slice asa x.san csa, .slice ald x.ldn cld, .slice (some ⟨bb, bo, none⟩) x.bkn cbk] 66)).alloc (.cells #[.int .i64 b.name, .int .i64 b.who, .string b.own, .slice alg b.lgn clg, .int .i64 b.pe, .int .i64 b.len, .int .i64 b.hei, .int .i64 b.cl, .bool b.all, .int .i64 b.be, .int .i64 b.state, .int .i64 b.unt, .int .i64 b.price] 131)) := push hb0 _
  have bO1 : ((w.alloc (.cells #[.slice asa x.san csa, .slice ald x.ldn cld, .slice (some ⟨bb, bo, none⟩) x.bkn cbk] 66)).alloc (.cells #[.int .i64 b.name, .int .i64 b.who, .string b.own, .slice alg b.lgn clg, .int .i64 b.pe, .int .i64 b.len, .int .i64 b.hei, .int .i64 b.cl, .bool b.all, .int .i64 b.be, .int .i64 b.state, .int .i64 b.unt, .int .i64 b.price] 131)).heap[w.heap.size]? = some (.cells #[.slice asa x.san csa, .slice ald x.ldn cld, .slice (some ⟨bb, bo, none⟩) x.bkn cbk] 66 (0, 0)) := blk_alloc bO _
  have bB1 : ((w.alloc (.cells #[.slice asa x.san csa, .slice ald x.ldn cld, .slice (some ⟨bb, bo, none⟩) x.bkn cbk] 66)).alloc (.cells #[.int .i64 b.name, .int .i64 b.who, .string b.own, .slice alg b.lgn clg, .int .i64 b.pe, .int .i64 b.len, .int .i64 b.hei, .int .i64 b.cl, .bool b.all, .int .i64 b.be, .int .i64 b.state, .int .i64 b.unt, .int .i64 b.price] 131)).heap[w.heap.size + 1]? = some (.cells #[.int .i64 b.name, .int .i64 b.who, .string b.own, .slice alg b.lgn clg, .int .i64 b.pe, .int .i64 b.len, .int .i64 b.hei, .int .i64 b.cl, .bool b.all, .int .i64 b.be, .int .i64 b.state, .int .i64 b.unt, .int .i64 b.price] 131 (0, 0)) := by simpa using heap_alloc_new (w.alloc _) _
  clear hb0 bO
  by_cases n1 : b.name = (i : Int) + 1
  case neg =>
    have e1 : (b.name != (i : Int) + 1) = true := by simpa using n1
    have HN : Hid (¬ BookOk x i) := fun h => n1 (by rw [HBK.out]; exact h.1)
    clear n1
    go_enter Tryz.func115, Tryz.ntmps115
    go_wp2
    go_ret
    exact ⟨says_no HN.out, hb1⟩
  have e1 : (b.name != (i : Int) + 1) = false := by simpa using n1
  have HB1 : Hid (b.name = (i : Int) + 1) := n1
  clear n1
  go_enter Tryz.func115, Tryz.ntmps115
  go_wp2_with fail
  generalize (w.alloc (.cells #[.slice asa x.san csa, .slice ald x.ldn cld, .slice (some ⟨bb, bo, none⟩) x.bkn cbk] 66)).alloc (.cells #[.int .i64 b.name, .int .i64 b.who, .string b.own, .slice alg b.lgn clg, .int .i64 b.pe, .int .i64 b.len, .int .i64 b.hei, .int .i64 b.cl, .bool b.all, .int .i64 b.be, .int .i64 b.state, .int .i64 b.unt, .int .i64 b.price] 131) = W at hb1 bO1 bB1 ⊢
  clear c0 c1 c2 c3 c4 c5 c6 c7 c8 c9 c10 c11 c12 e1 hwi
  have y0 := blk_cell bB1 0 _ rfl
  have y1 := blk_cell bB1 1 _ rfl
  have y2 := blk_cell bB1 2 _ rfl
  have y3 := blk_cell bB1 3 _ rfl
  have y4 := blk_cell bB1 4 _ rfl
  have y5 := blk_cell bB1 5 _ rfl
  have y6 := blk_cell bB1 6 _ rfl
  have y7 := blk_cell bB1 7 _ rfl
  have y8 := blk_cell bB1 8 _ rfl
  have y9 := blk_cell bB1 9 _ rfl
  have y10 := blk_cell bB1 10 _ rfl
  have y11 := blk_cell bB1 11 _ rfl
  have y12 := blk_cell bB1 12 _ rfl
  have z0 := blk_cell bO1 0 _ rfl
  have z2 := blk_cell bO1 2 _ rfl
  refine (l4By_is _ _).mono ?_
  obtain ⟨t0, ht0⟩ : ∃ t, t = decide (In b.who 1 9999) := ⟨_, rfl⟩
  rw [← ht0]
  have HT0 : Hid (t0 = true ↔ In b.who 1 9999) := by show t0 = true ↔ In b.who 1 9999; rw [ht0, decide_eq_true_eq]
  clear ht0
  rintro e v ⟨rfl, hv⟩
  have hv := hv.symm
  subst hv
  cases t0 with
  | false =>
    have HN : Hid (¬ BookOk x i) := fun h => by have h := (show BookOk x i from h); unfold BookOk at h; rw [← HBK.out] at h; have := HT0.out.2 h.2.1; cases this
    go_wp2
    go_ret
    exact ⟨says_no HN.out, hb1⟩
  | true =>
  have HP0 : Hid (In b.who 1 9999) := HT0.out.1 rfl
  clear HT0
  go_wp2_with fail
  refine (l1Name_is _ _ (by have := HSB.out.1; omega)).mono ?_
  obtain ⟨t1, ht1⟩ : ∃ t, t = decide (IsName b.own) := ⟨_, rfl⟩
  rw [← ht1]
  have HT1 : Hid (t1 = true ↔ IsName b.own) := by show t1 = true ↔ IsName b.own; rw [ht1, decide_eq_true_eq]
  clear ht1
  rintro e v ⟨rfl, hv⟩
  have hv := hv.symm
  subst hv
  cases t1 with
  | false =>
    have HN : Hid (¬ BookOk x i) := fun h => by have h := (show BookOk x i from h); unfold BookOk at h; rw [← HBK.out] at h; have := HT1.out.2 h.2.2.1; cases this
    go_wp2
    go_ret
    exact ⟨says_no HN.out, hb1⟩
  | true =>
  have HP1 : Hid (IsName b.own) := HT1.out.1 rfl
  clear HT1
  go_wp2_with fail
  refine (l3Fit_any asa alg x.san b.lgn csa clg x.sa b.lg _ HSH.out.1.1 HSB.out.2 (HSA.out.below hb1) (HLG.out.below hb1)).mono ?_
  rintro e v2 ⟨⟨t2, rfl, ht2⟩, hbv⟩
  have HT2 : Hid (t2 = true ↔ LegsOk x.san x.sa b.lgn b.lg) := ht2
  clear ht2
  have bO2 := blk_below bO1 hbv
  have bB2 := blk_below bB1 hbv
  have hb2 := after hb1 hbv
  clear y0 y1 y2 y3 y4 y5 y6 y7 y8 y9 y10 y11 y12 z0 z2 hb1 bO1 bB1 hbv
  have hb1 := hb2
  have bO1 := bO2
  have bB1 := bB2
  clear hb2 bO2 bB2
  have y0 := blk_cell bB1 0 _ rfl
  have y1 := blk_cell bB1 1 _ rfl
  have y2 := blk_cell bB1 2 _ rfl
  have y3 := blk_cell bB1 3 _ rfl
  have y4 := blk_cell bB1 4 _ rfl
  have y5 := blk_cell bB1 5 _ rfl
  have y6 := blk_cell bB1 6 _ rfl
  have y7 := blk_cell bB1 7 _ rfl
  have y8 := blk_cell bB1 8 _ rfl
  have y9 := blk_cell bB1 9 _ rfl
  have y10 := blk_cell bB1 10 _ rfl
  have y11 := blk_cell bB1 11 _ rfl
  have y12 := blk_cell bB1 12 _ rfl
  have z0 := blk_cell bO1 0 _ rfl
  have z2 := blk_cell bO1 2 _ rfl
  cases t2 with
  | false =>
    have HN : Hid (¬ BookOk x i) := fun h => by have h := (show BookOk x i from h); unfold BookOk at h; rw [← HBK.out] at h; have := HT2.out.2 h.2.2.2.1; cases this
    go_wp2
    go_ret
    exact ⟨says_no HN.out, hb1⟩
  | true =>
  have HP2 : Hid (LegsOk x.san x.sa b.lgn b.lg) := HT2.out.1 rfl
  clear HT2
  go_wp2_with fail
  refine (specParty_any b.pe b.len b.hei b.cl b.all b.be _).mono ?_
  rintro e v3 ⟨⟨t3, rfl, ht3⟩, hbv⟩
  have HT3 : Hid (t3 = true ↔ PartyOk b.p) := ht3
  clear ht3
  have bO2 := blk_below bO1 hbv
  have bB2 := blk_below bB1 hbv
  have hb2 := after hb1 hbv
  clear y0 y1 y2 y3 y4 y5 y6 y7 y8 y9 y10 y11 y12 z0 z2 hb1 bO1 bB1 hbv
  have hb1 := hb2
  have bO1 := bO2
  have bB1 := bB2
  clear hb2 bO2 bB2
  have y0 := blk_cell bB1 0 _ rfl
  have y1 := blk_cell bB1 1 _ rfl
  have y2 := blk_cell bB1 2 _ rfl
  have y3 := blk_cell bB1 3 _ rfl
  have y4 := blk_cell bB1 4 _ rfl
  have y5 := blk_cell bB1 5 _ rfl
  have y6 := blk_cell bB1 6 _ rfl
  have y7 := blk_cell bB1 7 _ rfl
  have y8 := blk_cell bB1 8 _ rfl
  have y9 := blk_cell bB1 9 _ rfl
  have y10 := blk_cell bB1 10 _ rfl
  have y11 := blk_cell bB1 11 _ rfl
  have y12 := blk_cell bB1 12 _ rfl
  have z0 := blk_cell bO1 0 _ rfl
  have z2 := blk_cell bO1 2 _ rfl
  cases t3 with
  | false =>
    have HN : Hid (¬ BookOk x i) := fun h => by have h := (show BookOk x i from h); unfold BookOk at h; rw [← HBK.out] at h; have := HT3.out.2 h.2.2.2.2.1; cases this
    go_wp2
    go_ret
    exact ⟨says_no HN.out, hb1⟩
  | true =>
  have HP3 : Hid (PartyOk b.p) := HT3.out.1 rfl
  clear HT3
  go_wp2_with fail
  refine (l1In_is _ _ _ _).mono ?_
  obtain ⟨t4, ht4⟩ : ∃ t, t = decide (In b.state 1 4) := ⟨_, rfl⟩
  rw [← ht4]
  have HT4 : Hid (t4 = true ↔ In b.state 1 4) := by show t4 = true ↔ In b.state 1 4; rw [ht4, decide_eq_true_eq]
  clear ht4
  rintro e v ⟨rfl, hv⟩
  have hv := hv.symm
  subst hv
  cases t4 with
  | false =>
    have HN : Hid (¬ BookOk x i) := fun h => by have h := (show BookOk x i from h); unfold BookOk at h; rw [← HBK.out] at h; have := HT4.out.2 h.2.2.2.2.2.1; cases this
    go_wp2
    go_ret
    exact ⟨says_no HN.out, hb1⟩
  | true =>
  have HP4 : Hid (In b.state 1 4) := HT4.out.1 rfl
  clear HT4
  go_wp2_with fail
  refine (l1In_is _ _ _ _).mono ?_
  obtain ⟨t5, ht5⟩ : ∃ t, t = decide (In b.price 0 1000000) := ⟨_, rfl⟩
  rw [← ht5]
  have HT5 : Hid (t5 = true ↔ In b.price 0 1000000) := by show t5 = true ↔ In b.price 0 1000000; rw [ht5, decide_eq_true_eq]
  clear ht5
  rintro e v ⟨rfl, hv⟩
  have hv := hv.symm
  subst hv
  cases t5 with
  | false =>
    have HN : Hid (¬ BookOk x i) := fun h => by have h := (show BookOk x i from h); unfold BookOk at h; rw [← HBK.out] at h; have := HT5.out.2 h.2.2.2.2.2.2.1; cases this
    go_wp2
    go_ret
    exact ⟨says_no HN.out, hb1⟩
  | true =>
  have HP5 : Hid (In b.price 0 1000000) := HT5.out.1 rfl
  clear HT5
  have hcb3 : (x.bkn : Int) ≤ (cbk : Int) := by omega
  have hic : (i : Int) ≤ (cbk : Int) := by omega
  go_wp2
  clear y0 y1 y2 y3 y4 y5 y6 y7 y8 y9 y10 y11 y12 z0 z2
  go_loopw [7, 61] (fun _ q wr => ∃ k : Nat, k ≤ i ∧ q = .int .i64 k ∧ (∀ j, j < k → (x.bk j).who ≠ b.who) ∧ Below v3.heap.size v3 wr) (fun _ q _ => i - (intOf q).toNat)
  case atStart => exact ⟨0, Nat.zero_le _, rfl, fun j hj => by omega, Below.refl _ _⟩
  case round =>
    obtain ⟨k, hk, rfl, hall, hbel⟩ := hrel
    have HA : Hid (∀ j, j < k → (x.bk j).who ≠ b.who) := hall
    clear hall
    by_cases hlt : k < i
    · obtain ⟨b2, o2, e2, hc⟩ := HC.out k (by omega)
      simp only [Option.some.injEq, Addr.mk.injEq, and_true] at e2
      obtain ⟨rfl, rfl⟩ := e2
      obtain ⟨al2, cl2, eC, _, _⟩ := HI.out k (by omega)
      obtain ⟨d, hd⟩ : ∃ d, d = x.bk k := ⟨_, rfl⟩
      rw [← hd] at eC
      have HD : Hid (d = x.bk k) := hd
      clear hd
      have hbw := after hb1 hbel
      have g0 : wr.cell? ⟨bb, bo + k * 13, none⟩ = some (.int .i64 d.name) := (hbw.cell (p := ⟨bb, bo + k * 13, none⟩) hltb).trans (by have := hc 0 (by decide); rw [eC] at this; exact this)
      have g1 : wr.cell? ⟨bb, bo + k * 13 + 1, none⟩ = some (.int .i64 d.who) := (hbw.cell (p := ⟨bb, bo + k * 13 + 1, none⟩) hltb).trans (by have := hc 1 (by decide); rw [eC] at this; exact this)
      have g2 : wr.cell? ⟨bb, bo + k * 13 + 2, none⟩ = some (.string d.own) := (hbw.cell (p := ⟨bb, bo + k * 13 + 2, none⟩) hltb).trans (by have := hc 2 (by decide); rw [eC] at this; exact this)
      have g3 : wr.cell? ⟨bb, bo + k * 13 + 3, none⟩ = some (.slice al2 d.lgn cl2) := (hbw.cell (p := ⟨bb, bo + k * 13 + 3, none⟩) hltb).trans (by have := hc 3 (by decide); rw [eC] at this; exact this)
      have g4 : wr.cell? ⟨bb, bo + k * 13 + 4, none⟩ = some (.int .i64 d.pe) := (hbw.cell (p := ⟨bb, bo + k * 13 + 4, none⟩) hltb).trans (by have := hc 4 (by decide); rw [eC] at this; exact this)
      have g5 : wr.cell? ⟨bb, bo + k * 13 + 5, none⟩ = some (.int .i64 d.len) := (hbw.cell (p := ⟨bb, bo + k * 13 + 5, none⟩) hltb).trans (by have := hc 5 (by decide); rw [eC] at this; exact this)
      have g6 : wr.cell? ⟨bb, bo + k * 13 + 6, none⟩ = some (.int .i64 d.hei) := (hbw.cell (p := ⟨bb, bo + k * 13 + 6, none⟩) hltb).trans (by have := hc 6 (by decide); rw [eC] at this; exact this)
      have g7 : wr.cell? ⟨bb, bo + k * 13 + 7, none⟩ = some (.int .i64 d.cl) := (hbw.cell (p := ⟨bb, bo + k * 13 + 7, none⟩) hltb).trans (by have := hc 7 (by decide); rw [eC] at this; exact this)
      have g8 : wr.cell? ⟨bb, bo + k * 13 + 8, none⟩ = some (.bool d.all) := (hbw.cell (p := ⟨bb, bo + k * 13 + 8, none⟩) hltb).trans (by have := hc 8 (by decide); rw [eC] at this; exact this)
      have g9 : wr.cell? ⟨bb, bo + k * 13 + 9, none⟩ = some (.int .i64 d.be) := (hbw.cell (p := ⟨bb, bo + k * 13 + 9, none⟩) hltb).trans (by have := hc 9 (by decide); rw [eC] at this; exact this)
      have g10 : wr.cell? ⟨bb, bo + k * 13 + 10, none⟩ = some (.int .i64 d.state) := (hbw.cell (p := ⟨bb, bo + k * 13 + 10, none⟩) hltb).trans (by have := hc 10 (by decide); rw [eC] at this; exact this)
      have g11 : wr.cell? ⟨bb, bo + k * 13 + 11, none⟩ = some (.int .i64 d.unt) := (hbw.cell (p := ⟨bb, bo + k * 13 + 11, none⟩) hltb).trans (by have := hc 11 (by decide); rw [eC] at this; exact this)
      have g12 : wr.cell? ⟨bb, bo + k * 13 + 12, none⟩ = some (.int .i64 d.price) := (hbw.cell (p := ⟨bb, bo + k * 13 + 12, none⟩) hltb).trans (by have := hc 12 (by decide); rw [eC] at this; exact this)
      have y1 : ∀ o, (wr.alloc o).cell? ⟨w.heap.size + 1, 1, none⟩ = some (.int .i64 b.who) := fun o => blk_cell (blk_alloc (blk_below bB1 hbel) o) 1 _ rfl
      clear hc eC hbw
      by_cases e3 : d.who = b.who
      · have e3' : (d.who == b.who) = true := by simpa using e3
        have HN : Hid (¬ BookOk x i) := fun h => h.2.2.2.2.2.2.2.1 k hlt (by rw [← HD.out, ← HBK.out]; exact e3)
        clear e3
        go_wp2
        go_ret
        exact ⟨says_no HN.out, push (after hb1 hbel) _⟩
      · have e3' : (d.who == b.who) = false := by simpa using e3
        have HN : Hid ((x.bk k).who ≠ b.who) := by rw [← HD.out]; exact e3
        clear e3
        go_wp2
        go_roundw
        case rel => exact ⟨k + 1, by omega, by go_num, fun j hj => by
          by_cases e : j = k
          · subst e; exact HN.out
          · exact HA.out j (by omega), push hbel _⟩
        case measure => simp [intOf]; omega
    · obtain rfl : k = i := by omega
      have hbw := after hb1 hbel
      have y10 := blk_cell (blk_below bB1 hbel) 10 _ rfl
      have y11 := blk_cell (blk_below bB1 hbel) 11 _ rfl
      have HF : Hid (BookOk x k ↔ UntilB b) := by
        show BookOk x k ↔ UntilB b
        unfold BookOk
        rw [← HBK.out]
        exact ⟨fun h => h.2.2.2.2.2.2.2.2, fun h => ⟨HB1.out, HP0.out, HP1.out, HP2.out, HP3.out, HP4.out, HP5.out, HA.out, h⟩⟩
      clear HB1 HP0 HP1 HP2 HP3 HP4 HP5 HA hbel
      by_cases s1 : b.state = 1
      · have s1' : (b.state == 1) = true := by simpa using s1
        have HU : Hid (UntilB b ↔ In b.unt 0 10000) := by show UntilB b ↔ In b.unt 0 10000; unfold UntilB; rw [if_pos (.inl s1)]
        clear s1
        go_wp2_with (first | (go_at_call 19; refine (l1In_is _ _ _ _).mono ?_; rintro e w' ⟨rfl, hw'⟩; have hw' := hw'.symm; subst hw'))
        go_ret
        exact ⟨⟨_, rfl, by rw [decide_eq_true_eq, HF.out, HU.out]⟩, hbw⟩
      · have s1' : (b.state == 1) = false := by simpa using s1
        by_cases s4 : b.state = 4
        · have s4' : (b.state == 4) = true := by simpa using s4
          have HU : Hid (UntilB b ↔ In b.unt 0 10000) := by show UntilB b ↔ In b.unt 0 10000; unfold UntilB; rw [if_pos (.inr s4)]
          clear s1 s4
          go_wp2_with (first | (go_at_call 19; refine (l1In_is _ _ _ _).mono ?_; rintro e w' ⟨rfl, hw'⟩; have hw' := hw'.symm; subst hw'))
          go_ret
          exact ⟨⟨_, rfl, by rw [decide_eq_true_eq, HF.out, HU.out]⟩, hbw⟩
        · have s4' : (b.state == 4) = false := by simpa using s4
          have HU : Hid (UntilB b ↔ b.unt = 0) := by show UntilB b ↔ b.unt = 0; unfold UntilB; rw [if_neg (fun h => by rcases h with h | h; exact s1 h; exact s4 h)]
          clear s1 s4
          go_wp2
          go_ret
          exact ⟨⟨_, rfl, by rw [beq_iff_eq, HF.out, HU.out]⟩, hbw⟩

end Go.Proofs.YtfallpinmhbemaaGreatDoor
