/-
  OWN TEXT: SpecDc, SpecDd, SpecDe, SpecDf, SpecSe.
-/
import Derived.Deep.DeepCutAuto
import Derived.Deep.RegionLawGrows
import Derived.Deep.AppendLies
import Derived.Deep.LoopGhost
import Derived.Test.YtfallpinmhbemaaGreatDoorB24
import Derived.Test.YtfallpinmhbemaaGreatDoorB10
import Derived.Test.YtfallpinmhbemaaGreatDoorB07
import Derived.Test.YtfallpinmhbemaaGreatDoorB06
import Derived.Test.YtfallpinmhbemaaGreatDoorB16
import Derived.Test.YtfallpinmhbemaaGreatDoorB09
import Derived.Test.YtfallpinmhbemaaGreatDoorB05
import Derived.Test.YtfallpinmhbemaaGreatDoorB08
namespace Go.Proofs.YtfallpinmhbemaaGreatDoor
open Go.RowKit

set_option maxHeartbeats 25600000 in
set_option maxRecDepth 100000 in
theorem l7Do_c (g base N R k csa cld cbk : Nat) (asa ald abk : Option Addr) (leg who : Int) (p : Party) (x : Off) (L C A B D E : Nat → Value) (w : World) (hq : w.heap[g]? = some (.cells #[.slice asa N csa, .slice ald N cld, .slice abk R cbk] 66 (0, 0))) (ho : OwnOff w base (.slice asa N csa) (.slice ald N cld) (.slice abk R cbk) N N R x L C A B D E) (hN : N ≤ 1048576) (hk : findIx x.sa leg N = k) (hlt : k < N) (hok : LoadOk (x.sa k) (x.ld k)) (r : Nat) (hr : r < (x.ld k).sen) (hx : whoT (x.ld k).se r = who) (hone : ∀ j, j < (x.ld k).sen → j ≠ r → whoT (x.ld k).se j ≠ who) :
    Calls Tryz.prog 122 #[.pointer (some ⟨g, 0, none⟩), .agg #[.int .i64 leg, .int .i64 2, .bool true, .int .i64 who, .int .i64 p.pe, .int .i64 p.len, .int .i64 p.hei, .int .i64 p.cl, .bool p.all, .int .i64 p.be]] w fun e w' => DoAns g base N R k csa cld cbk asa ald abk ⟨leg, 2, true, who, p⟩ x L C E w e w' := by
  obtain ⟨j0, ji, jz0, jz1, jz2⟩ := info_parts Tryz.infoSeat
  obtain ⟨gl, rfl, hbg, hlg⟩ := own_addr ho.ld.row (by omega)
  have HO : Hid (OwnOff w base (.slice asa N csa) (.slice (some ⟨gl, 0, none⟩) N cld) (.slice abk R cbk) N N R x L C A B D E) := ho
  have HK : Hid (findIx x.sa leg N = k) := hk
  have HOK : Hid (LoadOk (x.sa k) (x.ld k)) := hok
  have HBG : Hid (base ≤ w.heap.size) := by show base ≤ w.heap.size; omega
  have HQ : Hid (w.heap[g]? = some (.cells #[.slice asa N csa, .slice (some ⟨gl, 0, none⟩) N cld, .slice abk R cbk] 66 (0, 0))) := hq
  have HSAt : Hid (SailsAt w asa N x.sa) := ho.sa.at
  obtain ⟨cs, hgl⟩ := own_blockE ho.ld.row gl rfl
  obtain ⟨ast, cst, eA, m1, m2, m3⟩ := own_form (ho.ld.st k hlt)
  obtain ⟨aro, cro, eB, m4, m5, m6⟩ := own_form (ho.ld.ro k hlt)
  obtain ⟨ase, cse, eD, m7, m8, m9⟩ := own_form (ho.ld.se k hlt)
  have HST : Hid (w.ownsRow base 186 4 (.slice ast (x.ld k).stn cst) (x.ld k).stn (stayList (x.ld k).st (x.ld k).stn)) := by show w.ownsRow _ _ _ _ _ _; rw [← eA]; exact ho.ld.st k hlt
  have HRO : Hid (w.ownsRow base 190 4 (.slice aro (x.ld k).ron cro) (x.ld k).ron (roomList (x.ld k).ro (x.ld k).ron)) := by show w.ownsRow _ _ _ _ _ _; rw [← eB]; exact ho.ld.ro k hlt
  have HSE : Hid (w.ownsRow base 138 2 (.slice ase (x.ld k).sen cse) (x.ld k).sen (seatList (x.ld k).se (x.ld k).sen)) := by show w.ownsRow _ _ _ _ _ _; rw [← eD]; exact ho.ld.se k hlt
  have HL0 : Hid (w.cell? ⟨gl, k * 3, none⟩ = some (.slice ast (x.ld k).stn cst)) := by
    have h := own_cell ho.ld.row (k * 3 + 0) (by omega) rfl
    rw [recCell_at 3 _ k 0 (by decide)] at h
    rw [← eA]
    exact h
  have HL1 : Hid (w.cell? ⟨gl, k * 3 + 1, none⟩ = some (.slice aro (x.ld k).ron cro)) := by
    have h := own_cell ho.ld.row (k * 3 + 1) (by omega) rfl
    rw [recCell_at 3 _ k 1 (by decide)] at h
    rw [← eB]
    exact h
  have HL2 : Hid (w.cell? ⟨gl, k * 3 + 2, none⟩ = some (.slice ase (x.ld k).sen cse)) := by
    have h := own_cell ho.ld.row (k * 3 + 2) (by omega) rfl
    rw [recCell_at 3 _ k 2 (by decide)] at h
    rw [← eD]
    exact h
  have HNI : Hid ((ast = none → (x.ld k).stn = 0 ∧ cst = 0) ∧ (aro = none → (x.ld k).ron = 0 ∧ cro = 0) ∧ (ase = none → (x.ld k).sen = 0 ∧ cse = 0)) := ⟨m3, m6, m9⟩
  obtain ⟨s, hsd⟩ : ∃ s, s = x.sa k := ⟨_, rfl⟩
  obtain ⟨l, hld⟩ : ∃ l, l = x.ld k := ⟨_, rfl⟩
  rw [← hld] at HST HRO HSE HL0 HL1 HL2 HNI HOK
  rw [← hsd] at HOK
  have HSD : Hid (s = x.sa k) := hsd
  have HLD : Hid (l = x.ld k) := hld
  have HGL : Hid (w.heap[gl]? = some (.cells cs 136 (0, 0))) := hgl
  obtain ⟨sb0, so, la, lc, ca, cc, rfl, f0, f1, f2, f3, f4, f5, f6, f7, hla, hca, sla, sca⟩ := HSAt.out k hlt
  rw [← hsd] at f0 f1 f2 f3 f4 f5 f6 f7 hla hca sla sca
  have HPL : Hid (PairsAt w la s.la ∧ PairsAt w ca s.ca) := ⟨hla, hca⟩
  have HCS : Hid (∀ W, Below w.heap.size w W → W.cell? ⟨sb0, so + k * 8, none⟩ = some (.int .i64 s.id) ∧ W.cell? ⟨sb0, so + k * 8 + 1, none⟩ = some (.string s.fr) ∧ W.cell? ⟨sb0, so + k * 8 + 2, none⟩ = some (.string s.dst) ∧ W.cell? ⟨sb0, so + k * 8 + 3, none⟩ = some (.int .i64 s.dep) ∧ W.cell? ⟨sb0, so + k * 8 + 4, none⟩ = some (.int .i64 s.arr) ∧ W.cell? ⟨sb0, so + k * 8 + 5, none⟩ = some (.slice la s.la.n lc) ∧ W.cell? ⟨sb0, so + k * 8 + 6, none⟩ = some (.slice ca s.ca.n cc) ∧ W.cell? ⟨sb0, so + k * 8 + 7, none⟩ = some (.int .i64 s.most)) := fun W hb => by
    have lsb := World.block_lt_of_cell? w _ f0
    exact ⟨(hb.cell (p := ⟨sb0, so + k * 8, none⟩) lsb).trans f0, (hb.cell (p := ⟨sb0, so + k * 8 + 1, none⟩) lsb).trans f1, (hb.cell (p := ⟨sb0, so + k * 8 + 2, none⟩) lsb).trans f2, (hb.cell (p := ⟨sb0, so + k * 8 + 3, none⟩) lsb).trans f3, (hb.cell (p := ⟨sb0, so + k * 8 + 4, none⟩) lsb).trans f4, (hb.cell (p := ⟨sb0, so + k * 8 + 5, none⟩) lsb).trans f5, (hb.cell (p := ⟨sb0, so + k * 8 + 6, none⟩) lsb).trans f6, (hb.cell (p := ⟨sb0, so + k * 8 + 7, none⟩) lsb).trans f7⟩
  clear f0 f1 f2 f3 f4 f5 f6 f7 hla hca sla sca hsd hld hgl eA eB eD m1 m2 m3 m4 m5 m6 m7 m8 m9 hok hk hbg
  have i1 : (0 : Int) ≤ (k : Int) := by omega
  have i2 : (k : Int) < (N : Int) := by omega
  have hb0 : Below w.heap.size w (w.alloc (.cells #[.int .i64 leg, .int .i64 2, .bool true, .int .i64 who, .int .i64 p.pe, .int .i64 p.len, .int .i64 p.hei, .int .i64 p.cl, .bool p.all, .int .i64 p.be] 175)) := push (Below.refl _ _) _
  have b0 := heap_alloc_new w (.cells #[.int .i64 leg, .int .i64 2, .bool true, .int .i64 who, .int .i64 p.pe, .int .i64 p.len, .int .i64 p.hei, .int .i64 p.cl, .bool p.all, .int .i64 p.be] 175)
  go_enter Tryz.func122, Tryz.ntmps122
  go_upto_region 1 with fail
  generalize (w.alloc (.cells #[.int .i64 leg, .int .i64 2, .bool true, .int .i64 who, .int .i64 p.pe, .int .i64 p.len, .int .i64 p.hei, .int .i64 p.cl, .bool p.all, .int .i64 p.be] 175)) = W at hb0 b0 ⊢
  have z0 : ∀ G : Grown W, G.val.cell? ⟨g, 0, none⟩ = some (.slice (some ⟨sb0, so, none⟩) N csa) := fun G => blk_cell (blk_below HQ.out (after hb0 G.bel)) 0 _ rfl
  have z1 : ∀ G : Grown W, G.val.cell? ⟨w.heap.size, 0, none⟩ = some (.int .i64 leg) := fun G => blk_cell (blk_below b0 G.bel) 0 _ rfl
  refine wp_region_grow (by kernel_rfl) (by kernel_rfl) ?_
  repeat (first | go_big_quiet_skip | (go_big_quiet_want; go_big_quiet_op; first | go_big_quiet_on | (apply Exists.intro; refine ⟨fun G => ?_, ?_⟩; (focus (first | (go_at_call 110; refine grown_call (v := .int .i64 (k : Int)) ((l3At_any _ N csa x.sa leg _ hN (HSAt.out.below (after hb0 G.bel))).mono ?_); rintro e w2 ⟨he, hb2⟩; refine ⟨?_, hb2⟩; rw [HK.out] at he; rcases he with ⟨_, rfl⟩ | ⟨h, _⟩; rfl; omega))); go_big_quiet_on)))
  refine wpQuiet_nil ?_
  rintro _ ⟨G, rfl⟩
  clear z0 z1
  have hbG := after hb0 G.bel
  have bW := blk_below b0 G.bel
  obtain ⟨c0, c1, c2, c3, c4, c5, c6, c7⟩ := HCS.out G.val hbG
  have y0 := blk_cell (blk_below HQ.out hbG) 0 _ rfl
  have y1 : ∀ o, (G.val.alloc o).cell? ⟨g, 1, none⟩ = some (.slice (some ⟨gl, 0, none⟩) N cld) := fun o => blk_cell (blk_below HQ.out (push hbG o)) 1 _ rfl
  have y4 : ∀ o, (G.val.alloc o).cell? ⟨w.heap.size, 4, none⟩ = some (.int .i64 p.pe) := fun o => blk_cell (blk_alloc bW o) 4 _ rfl
  have y5 : ∀ o, (G.val.alloc o).cell? ⟨w.heap.size, 5, none⟩ = some (.int .i64 p.len) := fun o => blk_cell (blk_alloc bW o) 5 _ rfl
  have y6 : ∀ o, (G.val.alloc o).cell? ⟨w.heap.size, 6, none⟩ = some (.int .i64 p.hei) := fun o => blk_cell (blk_alloc bW o) 6 _ rfl
  have y7 : ∀ o, (G.val.alloc o).cell? ⟨w.heap.size, 7, none⟩ = some (.int .i64 p.cl) := fun o => blk_cell (blk_alloc bW o) 7 _ rfl
  have y8 : ∀ o, (G.val.alloc o).cell? ⟨w.heap.size, 8, none⟩ = some (.bool p.all) := fun o => blk_cell (blk_alloc bW o) 8 _ rfl
  have y9 : ∀ o, (G.val.alloc o).cell? ⟨w.heap.size, 9, none⟩ = some (.int .i64 p.be) := fun o => blk_cell (blk_alloc bW o) 9 _ rfl
  go_upto_region 8 with fail
  have hbX : Below w.heap.size w ((G.val.alloc (.cells #[.int .i64 s.id, .string s.fr, .string s.dst, .int .i64 s.dep, .int .i64 s.arr, .slice la s.la.n lc, .slice ca s.ca.n cc, .int .i64 s.most] 37)).alloc (.cells #[.int .i64 p.pe, .int .i64 p.len, .int .i64 p.hei, .int .i64 p.cl, .bool p.all, .int .i64 p.be] 25)) := push (push hbG _) _
  have bWX := blk_alloc (blk_alloc bW (.cells #[.int .i64 s.id, .string s.fr, .string s.dst, .int .i64 s.dep, .int .i64 s.arr, .slice la s.la.n lc, .slice ca s.ca.n cc, .int .i64 s.most] 37)) (.cells #[.int .i64 p.pe, .int .i64 p.len, .int .i64 p.hei, .int .i64 p.cl, .bool p.all, .int .i64 p.be] 25)
  have bSX := blk_alloc (heap_alloc_new G.val (.cells #[.int .i64 s.id, .string s.fr, .string s.dst, .int .i64 s.dep, .int .i64 s.arr, .slice la s.la.n lc, .slice ca s.ca.n cc, .int .i64 s.most] 37)) (.cells #[.int .i64 p.pe, .int .i64 p.len, .int .i64 p.hei, .int .i64 p.cl, .bool p.all, .int .i64 p.be] 25)
  have bPX := new2 G.val (.cells #[.int .i64 s.id, .string s.fr, .string s.dst, .int .i64 s.dep, .int .i64 s.arr, .slice la s.la.n lc, .slice ca s.ca.n cc, .int .i64 s.most] 37) (.cells #[.int .i64 p.pe, .int .i64 p.len, .int .i64 p.hei, .int .i64 p.cl, .bool p.all, .int .i64 p.be] 25)
  generalize hx0 : (G.val.alloc (.cells #[.int .i64 s.id, .string s.fr, .string s.dst, .int .i64 s.dep, .int .i64 s.arr, .slice la s.la.n lc, .slice ca s.ca.n cc, .int .i64 s.most] 37)).alloc (.cells #[.int .i64 p.pe, .int .i64 p.len, .int .i64 p.hei, .int .i64 p.cl, .bool p.all, .int .i64 p.be] 25) = X at hbX bWX bSX bPX ⊢
  generalize hsb : G.val.heap.size = sb at bSX bPX ⊢
  clear c0 c1 c2 c3 c4 c5 c6 c7 y0 y1 y4 y5 y6 y7 y8 y9 bW hbG hb0 b0 hx0 hsb G W
  have w1 := blk_cell bWX 1 _ rfl
  have w2 := blk_cell bWX 2 _ rfl
  have w3 := blk_cell bWX 3 _ rfl
  have L0 : X.cell? ⟨gl, k * 3, none⟩ = some (.slice ast l.stn cst) := (hbX.cell (p := ⟨gl, k * 3, none⟩) hlg).trans HL0.out
  have L1 : X.cell? ⟨gl, k * 3 + 1, none⟩ = some (.slice aro l.ron cro) := (hbX.cell (p := ⟨gl, k * 3 + 1, none⟩) hlg).trans HL1.out
  have L2 : X.cell? ⟨gl, k * 3 + 2, none⟩ = some (.slice ase l.sen cse) := (hbX.cell (p := ⟨gl, k * 3 + 2, none⟩) hlg).trans HL2.out
  have bG := blk_below HGL.out hbX
  have HR : Hid (r < l.sen ∧ whoT l.se r = who ∧ ∀ j, j < l.sen → j ≠ r → whoT l.se j ≠ who) := by rw [HLD.out]; exact ⟨hr, hx, hone⟩
  clear hr hx hone
  have hn60 : l.sen ≤ 60 := HOK.out.2.2.2.1
  go_wp2
  go_loopw [12, 14, 132] (fun v _ i wr => ∃ q : Nat, q ≤ l.sen ∧ i = .int .i64 q ∧ wr.ownsRow X.heap.size 138 2 v (cntW r q) (seatList (outOf l.se r) (cntW r q)) ∧ Below X.heap.size X wr) (fun _ _ i _ => l.sen - (intOf i).toNat)
  case atStart => exact ⟨0, Nat.zero_le _, rfl, ⟨rfl, .inl ⟨rfl, rfl⟩⟩, Below.refl _ _⟩
  case round =>
    obtain ⟨q, hq, rfl, hown, hbel⟩ := hrel
    by_cases hlq : q < l.sen
    · obtain ⟨b, off, rfl, h0, h1⟩ := (seats_of_own HSE.out).below hbX q hlq
      have hb := World.block_lt_of_cell? X _ h0
      have c0 := (hbel.cell (p := ⟨b, off + q * 2, none⟩) hb).trans h0
      have c1 := (hbel.cell (p := ⟨b, off + q * 2 + 1, none⟩) hb).trans h1
      clear h0 h1
      have y3 : ∀ o, (wr.alloc o).cell? ⟨w.heap.size, 3, none⟩ = some (.int .i64 who) := fun o => blk_cell (blk_alloc (blk_below bWX hbel) o) 3 _ rfl
      by_cases he : q = r
      · have e1 : ((l.se q).who == who) = true := by rw [he]; simpa [whoT] using HR.out.2.1
        have e2 : ((l.se q).who != who) = false := by rw [he]; simpa [whoT] using HR.out.2.1
        have HC : Hid (cntW r (q + 1) = cntW r q) := by
          have a1 : cntW r (q + 1) = q + 1 - 1 := if_neg (by omega)
          have a2 : cntW r q = q := if_pos (by omega)
          show cntW r (q + 1) = cntW r q
          omega
        clear he
        go_wp2
        go_roundw
        case rel => exact ⟨q + 1, by omega, by go_num, by rw [HC.out]; exact own_below (push (Below.refl _ _) _) hown, push hbel _⟩
        case measure => simp [intOf]; omega
      · have hne := HR.out.2.2 q hlq he
        have e1 : ((l.se q).who == who) = false := by simpa [whoT] using hne
        have e2 : ((l.se q).who != who) = true := by simpa [whoT] using hne
        have HC : Hid (cntW r (q + 1) = cntW r q + 1 ∧ outOf l.se r (cntW r q) = l.se q ∧ cntW r q ≤ 60) := by
          by_cases c : q ≤ r
          · have a1 : cntW r (q + 1) = q + 1 := if_pos (by omega)
            have a2 : cntW r q = q := if_pos c
            have a3 : outOf l.se r q = l.se q := if_pos (by omega)
            rw [a1, a2, a3]
            exact ⟨rfl, rfl, by omega⟩
          · have a1 : cntW r (q + 1) = q + 1 - 1 := if_neg (by omega)
            have a2 : cntW r q = q - 1 := if_neg c
            have a3 : outOf l.se r (q - 1) = l.se (q - 1 + 1) := if_neg (by omega)
            rw [a1, a2, a3]
            exact ⟨by omega, by rw [show q - 1 + 1 = q by omega], by omega⟩
        clear he hne
        have hsz := hbel.size
        have hcb := HC.out.2.2
        generalize hqq : cntW r q = qq at hown hcb
        have HQQ : Hid (cntW r q = qq) := hqq
        clear hqq
        have HN : Hid (∀ ad, (some ⟨wr.heap.size + 1, 0, none⟩ : Option Addr) = some ad → ∀ j u, [Value.int .i64 (l.se q).who, .int .i64 (l.se q).many][j]? = some u → ((wr.alloc (.cells #[.int .i64 (l.se q).who, .int .i64 (l.se q).many] 138)).alloc (.cells #[.int .i64 (l.se q).who, .int .i64 (l.se q).many] 138)).cell? (ad.add j) = some u) := by
          intro ad e
          cases e
          exact World.news_of_block (by simpa using heap_alloc_new (wr.alloc _) _)
        go_wp2_with (first | (at_builtin; refine wpList_append_any _ (by rfl) (.tmp 141) (.tmp 143) 132 (by rfl) X.heap.size 138 j0 (.agg #[.int .i64 0, .int .i64 0]) 2 16 Tryz.underlying132 ji jz0 jz1 jz2 rfl (by decide) _ qq (seatList (outOf l.se r) qq) (by rfl) ((hown.alloc _).alloc _) (some ⟨wr.heap.size + 1, 0, none⟩) 1 1 [.int .i64 (l.se q).who, .int .i64 (l.se q).many] (by rfl) (fun h => (by cases h)) (by rfl) HN.out (by intro u hu; simp at hu; rcases hu with rfl | rfl <;> rfl) (by unfold maxLen; omega) (by omega) (by simp; omega) ?_; intro v' w3' ho3 hg3))
        go_roundw
        case rel =>
          refine ⟨q + 1, by omega, by go_num, ?_, (push (push hbel _) _).grown hg3 (by simp; omega) (fun j hj => (hown.lt j hj).1)⟩
          obtain ⟨a1, a2, _⟩ := HC.out
          rw [a1, HQQ.out, seatList_succ]
          rw [HQQ.out] at a2
          rw [a2]
          exact ho3
        case measure => simp [intOf]; omega
    · obtain rfl : q = l.sen := by omega
      have HC : Hid (cntW r l.sen = l.sen - 1) := if_neg (by have := HR.out.1; omega)
      rw [HC.out] at hown
      obtain ⟨av, cv, rfl, _⟩ := own_form hown
      have q0 := (hbel.cell (p := ⟨gl, k * 3 + 2, none⟩) (blk_lt bG)).trans L2
      have q1 := blk_free (blk_below bG hbel) (k * 3 + 2)
      have HF : Hid _ := doSe (k := k) (v := ⟨leg, 2, true, who, p⟩) HO.out HQ.out HBG.out (after hbX hbel) (own_base hown hbX.size) (by rw [HLD.out]; exact .noSeat r rfl rfl (by rw [← HLD.out]; exact HR.out.1) (by rw [← HLD.out]; exact HR.out.2.1))
      go_wp2
      go_ret
      exact HF.out

end Go.Proofs.YtfallpinmhbemaaGreatDoor

namespace Go.Proofs.YtfallpinmhbemaaGreatDoor
open Go.RowKit

set_option maxHeartbeats 25600000 in
set_option maxRecDepth 100000 in
theorem l7Do_d (g base N R k csa cld cbk : Nat) (asa ald abk : Option Addr) (leg who : Int) (p : Party) (x : Off) (L C A B D E : Nat → Value) (w : World) (hq : w.heap[g]? = some (.cells #[.slice asa N csa, .slice ald N cld, .slice abk R cbk] 66 (0, 0))) (ho : OwnOff w base (.slice asa N csa) (.slice ald N cld) (.slice abk R cbk) N N R x L C A B D E) (hN : N ≤ 1048576) (hk : findIx x.sa leg N = k) (hlt : k < N) (hok : LoadOk (x.sa k) (x.ld k)) :
    Calls Tryz.prog 122 #[.pointer (some ⟨g, 0, none⟩), .agg #[.int .i64 leg, .int .i64 0, .bool false, .int .i64 who, .int .i64 p.pe, .int .i64 p.len, .int .i64 p.hei, .int .i64 p.cl, .bool p.all, .int .i64 p.be]] w fun e w' => DoAns g base N R k csa cld cbk asa ald abk ⟨leg, 0, false, who, p⟩ x L C E w e w' := by
  obtain ⟨i0, ii, iz0, iz1, iz2⟩ := info_parts Tryz.infoStay
  obtain ⟨gl, rfl, hbg, hlg⟩ := own_addr ho.ld.row (by omega)
  have HO : Hid (OwnOff w base (.slice asa N csa) (.slice (some ⟨gl, 0, none⟩) N cld) (.slice abk R cbk) N N R x L C A B D E) := ho
  have HK : Hid (findIx x.sa leg N = k) := hk
  have HOK : Hid (LoadOk (x.sa k) (x.ld k)) := hok
  have HBG : Hid (base ≤ w.heap.size) := by show base ≤ w.heap.size; omega
  have HQ : Hid (w.heap[g]? = some (.cells #[.slice asa N csa, .slice (some ⟨gl, 0, none⟩) N cld, .slice abk R cbk] 66 (0, 0))) := hq
  have HSAt : Hid (SailsAt w asa N x.sa) := ho.sa.at
  obtain ⟨cs, hgl⟩ := own_blockE ho.ld.row gl rfl
  obtain ⟨ast, cst, eA, m1, m2, m3⟩ := own_form (ho.ld.st k hlt)
  obtain ⟨aro, cro, eB, m4, m5, m6⟩ := own_form (ho.ld.ro k hlt)
  obtain ⟨ase, cse, eD, m7, m8, m9⟩ := own_form (ho.ld.se k hlt)
  have HST : Hid (w.ownsRow base 186 4 (.slice ast (x.ld k).stn cst) (x.ld k).stn (stayList (x.ld k).st (x.ld k).stn)) := by show w.ownsRow _ _ _ _ _ _; rw [← eA]; exact ho.ld.st k hlt
  have HRO : Hid (w.ownsRow base 190 4 (.slice aro (x.ld k).ron cro) (x.ld k).ron (roomList (x.ld k).ro (x.ld k).ron)) := by show w.ownsRow _ _ _ _ _ _; rw [← eB]; exact ho.ld.ro k hlt
  have HSE : Hid (w.ownsRow base 138 2 (.slice ase (x.ld k).sen cse) (x.ld k).sen (seatList (x.ld k).se (x.ld k).sen)) := by show w.ownsRow _ _ _ _ _ _; rw [← eD]; exact ho.ld.se k hlt
  have HL0 : Hid (w.cell? ⟨gl, k * 3, none⟩ = some (.slice ast (x.ld k).stn cst)) := by
    have h := own_cell ho.ld.row (k * 3 + 0) (by omega) rfl
    rw [recCell_at 3 _ k 0 (by decide)] at h
    rw [← eA]
    exact h
  have HL1 : Hid (w.cell? ⟨gl, k * 3 + 1, none⟩ = some (.slice aro (x.ld k).ron cro)) := by
    have h := own_cell ho.ld.row (k * 3 + 1) (by omega) rfl
    rw [recCell_at 3 _ k 1 (by decide)] at h
    rw [← eB]
    exact h
  have HL2 : Hid (w.cell? ⟨gl, k * 3 + 2, none⟩ = some (.slice ase (x.ld k).sen cse)) := by
    have h := own_cell ho.ld.row (k * 3 + 2) (by omega) rfl
    rw [recCell_at 3 _ k 2 (by decide)] at h
    rw [← eD]
    exact h
  have HNI : Hid ((ast = none → (x.ld k).stn = 0 ∧ cst = 0) ∧ (aro = none → (x.ld k).ron = 0 ∧ cro = 0) ∧ (ase = none → (x.ld k).sen = 0 ∧ cse = 0)) := ⟨m3, m6, m9⟩
  obtain ⟨s, hsd⟩ : ∃ s, s = x.sa k := ⟨_, rfl⟩
  obtain ⟨l, hld⟩ : ∃ l, l = x.ld k := ⟨_, rfl⟩
  rw [← hld] at HST HRO HSE HL0 HL1 HL2 HNI HOK
  rw [← hsd] at HOK
  have HSD : Hid (s = x.sa k) := hsd
  have HLD : Hid (l = x.ld k) := hld
  have HGL : Hid (w.heap[gl]? = some (.cells cs 136 (0, 0))) := hgl
  obtain ⟨sb0, so, la, lc, ca, cc, rfl, f0, f1, f2, f3, f4, f5, f6, f7, hla, hca, sla, sca⟩ := HSAt.out k hlt
  rw [← hsd] at f0 f1 f2 f3 f4 f5 f6 f7 hla hca sla sca
  have HPL : Hid (PairsAt w la s.la ∧ PairsAt w ca s.ca) := ⟨hla, hca⟩
  have HCS : Hid (∀ W, Below w.heap.size w W → W.cell? ⟨sb0, so + k * 8, none⟩ = some (.int .i64 s.id) ∧ W.cell? ⟨sb0, so + k * 8 + 1, none⟩ = some (.string s.fr) ∧ W.cell? ⟨sb0, so + k * 8 + 2, none⟩ = some (.string s.dst) ∧ W.cell? ⟨sb0, so + k * 8 + 3, none⟩ = some (.int .i64 s.dep) ∧ W.cell? ⟨sb0, so + k * 8 + 4, none⟩ = some (.int .i64 s.arr) ∧ W.cell? ⟨sb0, so + k * 8 + 5, none⟩ = some (.slice la s.la.n lc) ∧ W.cell? ⟨sb0, so + k * 8 + 6, none⟩ = some (.slice ca s.ca.n cc) ∧ W.cell? ⟨sb0, so + k * 8 + 7, none⟩ = some (.int .i64 s.most)) := fun W hb => by
    have lsb := World.block_lt_of_cell? w _ f0
    exact ⟨(hb.cell (p := ⟨sb0, so + k * 8, none⟩) lsb).trans f0, (hb.cell (p := ⟨sb0, so + k * 8 + 1, none⟩) lsb).trans f1, (hb.cell (p := ⟨sb0, so + k * 8 + 2, none⟩) lsb).trans f2, (hb.cell (p := ⟨sb0, so + k * 8 + 3, none⟩) lsb).trans f3, (hb.cell (p := ⟨sb0, so + k * 8 + 4, none⟩) lsb).trans f4, (hb.cell (p := ⟨sb0, so + k * 8 + 5, none⟩) lsb).trans f5, (hb.cell (p := ⟨sb0, so + k * 8 + 6, none⟩) lsb).trans f6, (hb.cell (p := ⟨sb0, so + k * 8 + 7, none⟩) lsb).trans f7⟩
  clear f0 f1 f2 f3 f4 f5 f6 f7 hla hca sla sca hsd hld hgl eA eB eD m1 m2 m3 m4 m5 m6 m7 m8 m9 hok hk hbg
  have i1 : (0 : Int) ≤ (k : Int) := by omega
  have i2 : (k : Int) < (N : Int) := by omega
  have hb0 : Below w.heap.size w (w.alloc (.cells #[.int .i64 leg, .int .i64 0, .bool false, .int .i64 who, .int .i64 p.pe, .int .i64 p.len, .int .i64 p.hei, .int .i64 p.cl, .bool p.all, .int .i64 p.be] 175)) := push (Below.refl _ _) _
  have b0 := heap_alloc_new w (.cells #[.int .i64 leg, .int .i64 0, .bool false, .int .i64 who, .int .i64 p.pe, .int .i64 p.len, .int .i64 p.hei, .int .i64 p.cl, .bool p.all, .int .i64 p.be] 175)
  go_enter Tryz.func122, Tryz.ntmps122
  go_upto_region 1 with fail
  generalize (w.alloc (.cells #[.int .i64 leg, .int .i64 0, .bool false, .int .i64 who, .int .i64 p.pe, .int .i64 p.len, .int .i64 p.hei, .int .i64 p.cl, .bool p.all, .int .i64 p.be] 175)) = W at hb0 b0 ⊢
  have z0 : ∀ G : Grown W, G.val.cell? ⟨g, 0, none⟩ = some (.slice (some ⟨sb0, so, none⟩) N csa) := fun G => blk_cell (blk_below HQ.out (after hb0 G.bel)) 0 _ rfl
  have z1 : ∀ G : Grown W, G.val.cell? ⟨w.heap.size, 0, none⟩ = some (.int .i64 leg) := fun G => blk_cell (blk_below b0 G.bel) 0 _ rfl
  refine wp_region_grow (by kernel_rfl) (by kernel_rfl) ?_
  repeat (first | go_big_quiet_skip | (go_big_quiet_want; go_big_quiet_op; first | go_big_quiet_on | (apply Exists.intro; refine ⟨fun G => ?_, ?_⟩; (focus (first | (go_at_call 110; refine grown_call (v := .int .i64 (k : Int)) ((l3At_any _ N csa x.sa leg _ hN (HSAt.out.below (after hb0 G.bel))).mono ?_); rintro e w2 ⟨he, hb2⟩; refine ⟨?_, hb2⟩; rw [HK.out] at he; rcases he with ⟨_, rfl⟩ | ⟨h, _⟩; rfl; omega))); go_big_quiet_on)))
  refine wpQuiet_nil ?_
  rintro _ ⟨G, rfl⟩
  clear z0 z1
  have hbG := after hb0 G.bel
  have bW := blk_below b0 G.bel
  obtain ⟨c0, c1, c2, c3, c4, c5, c6, c7⟩ := HCS.out G.val hbG
  have y0 := blk_cell (blk_below HQ.out hbG) 0 _ rfl
  have y1 : ∀ o, (G.val.alloc o).cell? ⟨g, 1, none⟩ = some (.slice (some ⟨gl, 0, none⟩) N cld) := fun o => blk_cell (blk_below HQ.out (push hbG o)) 1 _ rfl
  have y4 : ∀ o, (G.val.alloc o).cell? ⟨w.heap.size, 4, none⟩ = some (.int .i64 p.pe) := fun o => blk_cell (blk_alloc bW o) 4 _ rfl
  have y5 : ∀ o, (G.val.alloc o).cell? ⟨w.heap.size, 5, none⟩ = some (.int .i64 p.len) := fun o => blk_cell (blk_alloc bW o) 5 _ rfl
  have y6 : ∀ o, (G.val.alloc o).cell? ⟨w.heap.size, 6, none⟩ = some (.int .i64 p.hei) := fun o => blk_cell (blk_alloc bW o) 6 _ rfl
  have y7 : ∀ o, (G.val.alloc o).cell? ⟨w.heap.size, 7, none⟩ = some (.int .i64 p.cl) := fun o => blk_cell (blk_alloc bW o) 7 _ rfl
  have y8 : ∀ o, (G.val.alloc o).cell? ⟨w.heap.size, 8, none⟩ = some (.bool p.all) := fun o => blk_cell (blk_alloc bW o) 8 _ rfl
  have y9 : ∀ o, (G.val.alloc o).cell? ⟨w.heap.size, 9, none⟩ = some (.int .i64 p.be) := fun o => blk_cell (blk_alloc bW o) 9 _ rfl
  go_upto_region 8 with fail
  have hbX : Below w.heap.size w ((G.val.alloc (.cells #[.int .i64 s.id, .string s.fr, .string s.dst, .int .i64 s.dep, .int .i64 s.arr, .slice la s.la.n lc, .slice ca s.ca.n cc, .int .i64 s.most] 37)).alloc (.cells #[.int .i64 p.pe, .int .i64 p.len, .int .i64 p.hei, .int .i64 p.cl, .bool p.all, .int .i64 p.be] 25)) := push (push hbG _) _
  have bWX := blk_alloc (blk_alloc bW (.cells #[.int .i64 s.id, .string s.fr, .string s.dst, .int .i64 s.dep, .int .i64 s.arr, .slice la s.la.n lc, .slice ca s.ca.n cc, .int .i64 s.most] 37)) (.cells #[.int .i64 p.pe, .int .i64 p.len, .int .i64 p.hei, .int .i64 p.cl, .bool p.all, .int .i64 p.be] 25)
  have bSX := blk_alloc (heap_alloc_new G.val (.cells #[.int .i64 s.id, .string s.fr, .string s.dst, .int .i64 s.dep, .int .i64 s.arr, .slice la s.la.n lc, .slice ca s.ca.n cc, .int .i64 s.most] 37)) (.cells #[.int .i64 p.pe, .int .i64 p.len, .int .i64 p.hei, .int .i64 p.cl, .bool p.all, .int .i64 p.be] 25)
  have bPX := new2 G.val (.cells #[.int .i64 s.id, .string s.fr, .string s.dst, .int .i64 s.dep, .int .i64 s.arr, .slice la s.la.n lc, .slice ca s.ca.n cc, .int .i64 s.most] 37) (.cells #[.int .i64 p.pe, .int .i64 p.len, .int .i64 p.hei, .int .i64 p.cl, .bool p.all, .int .i64 p.be] 25)
  generalize hx0 : (G.val.alloc (.cells #[.int .i64 s.id, .string s.fr, .string s.dst, .int .i64 s.dep, .int .i64 s.arr, .slice la s.la.n lc, .slice ca s.ca.n cc, .int .i64 s.most] 37)).alloc (.cells #[.int .i64 p.pe, .int .i64 p.len, .int .i64 p.hei, .int .i64 p.cl, .bool p.all, .int .i64 p.be] 25) = X at hbX bWX bSX bPX ⊢
  generalize hsb : G.val.heap.size = sb at bSX bPX ⊢
  clear c0 c1 c2 c3 c4 c5 c6 c7 y0 y1 y4 y5 y6 y7 y8 y9 bW hbG hb0 b0 hx0 hsb G W
  have w1 := blk_cell bWX 1 _ rfl
  have w2 := blk_cell bWX 2 _ rfl
  have w3 := blk_cell bWX 3 _ rfl
  have L0 : X.cell? ⟨gl, k * 3, none⟩ = some (.slice ast l.stn cst) := (hbX.cell (p := ⟨gl, k * 3, none⟩) hlg).trans HL0.out
  have L1 : X.cell? ⟨gl, k * 3 + 1, none⟩ = some (.slice aro l.ron cro) := (hbX.cell (p := ⟨gl, k * 3 + 1, none⟩) hlg).trans HL1.out
  have L2 : X.cell? ⟨gl, k * 3 + 2, none⟩ = some (.slice ase l.sen cse) := (hbX.cell (p := ⟨gl, k * 3 + 2, none⟩) hlg).trans HL2.out
  have bG := blk_below HGL.out hbX
  obtain ⟨r, hr0⟩ := placeIx_some s.la l.stn l.st p.len p.hei
  have HPI : Hid (PlaceIx s.la l.stn l.st p.len p.hei r) := hr0
  clear hr0
  have s5 : ∀ G : Grown X, G.val.cell? ⟨sb, 5, none⟩ = some (.slice la s.la.n lc) := fun G => blk_cell (blk_below bSX G.bel) 5 _ rfl
  have s6 : ∀ G : Grown X, G.val.cell? ⟨gl, k * 3, none⟩ = some (.slice ast l.stn cst) := fun G => (G.bel.cell (p := ⟨gl, k * 3, none⟩) (blk_lt bG)).trans L0
  have p1 : ∀ G : Grown X, G.val.cell? ⟨sb + 1, 1, none⟩ = some (.int .i64 p.len) := fun G => blk_cell (blk_below bPX G.bel) 1 _ rfl
  have p2 : ∀ G : Grown X, G.val.cell? ⟨sb + 1, 2, none⟩ = some (.int .i64 p.hei) := fun G => blk_cell (blk_below bPX G.bel) 2 _ rfl
  go_upto_region 29 with fail
  refine wp_region_grow (by kernel_rfl) (by kernel_rfl) ?_
  repeat (first | go_big_quiet_skip | (go_big_quiet_want; go_big_quiet_op; first | go_big_quiet_on | (apply Exists.intro; refine ⟨fun G => ?_, ?_⟩; (focus (first | (go_at_call 140; refine grown_call (v := .int .i64 r) ((l4Place_any la ast s.la.n lc l.stn cst s.la l.st p.len p.hei _ rfl ((deck_iff _ _ _).1 HOK.out.1) (HPL.out.1.below (after hbX G.bel)) ((stays_of_own HST.out).below (after hbX G.bel))).mono ?_); rintro e w2 ⟨⟨r', rfl, o1⟩, hb2⟩; exact ⟨by rw [placeIx_one o1 HPI.out], hb2⟩))); go_big_quiet_on)))
  refine wpQuiet_nil ?_
  rintro _ ⟨G, rfl⟩
  have hbY := after hbX G.bel
  have bWY := blk_below bWX G.bel
  have bPY := blk_below bPX G.bel
  have bGY := blk_below bG G.bel
  clear w1 w2 w3 L0 L1 L2 s5 s6 p1 p2
  generalize G.val = w5 at hbY bWY bPY bGY ⊢
  clear hbX bWX bSX bPX bG G X
  by_cases hr : r < 0
  · have e1 : decide (r < 0) = true := decide_eq_true hr
    have HF : Hid _ := doNo (k := k) (code := 5) (v := ⟨leg, 0, false, who, p⟩) HO.out HQ.out hbY (by
      refine .deck rfl rfl ?_
      rw [← HSD.out, ← HLD.out]
      rcases HPI.out with ⟨j, h, _⟩ | ⟨h, h2⟩
      · omega
      · exact .inr ⟨rfl, h2⟩)
    go_wp2
    go_ret
    exact HF.out
  obtain ⟨m, rfl⟩ : ∃ m : Nat, r = (m : Int) := ⟨r.toNat, by omega⟩
  have e1 : decide ((m : Int) < 0) = false := decide_eq_false hr
  clear hr
  go_upto_region 32 with fail
  have HN : Hid (ast = none → l.stn = 0 ∧ cst = 0) := HNI.out.1
  have HLL : Hid (∀ z, Below w5.heap.size w5 z → StaysAt z ast l.stn l.st) := fun z h => (stays_of_own HST.out).below (after hbY h)
  have hn60 : l.stn ≤ 60 := ((deck_iff _ _ _).1 HOK.out.1).2.1
  have LY0 : w5.cell? ⟨gl, k * 3, none⟩ = some (.slice ast l.stn cst) := (hbY.cell (p := ⟨gl, k * 3, none⟩) hlg).trans HL0.out
  have KS : Hid (∀ z, Below w5.heap.size w5 z → (z.cell? ⟨w.heap.size, 3, none⟩ = some (.int .i64 who) ∧ z.cell? ⟨sb + 1, 1, none⟩ = some (.int .i64 p.len) ∧ z.cell? ⟨sb + 1, 2, none⟩ = some (.int .i64 p.hei)) ∧ z.cell? ⟨gl, k * 3, none⟩ = some (.slice ast l.stn cst)) := fun z h => ⟨⟨blk_cell (blk_below bWY h) 3 _ rfl, blk_cell (blk_below bPY h) 1 _ rfl, blk_cell (blk_below bPY h) 2 _ rfl⟩, (h.cell (p := ⟨gl, k * 3, none⟩) (blk_lt bGY)).trans LY0⟩
  refine wp_region_z 19 20 (fun w' => (w'.cell? ⟨w.heap.size, 3, none⟩ = some (.int .i64 who) ∧ w'.cell? ⟨sb + 1, 1, none⟩ = some (.int .i64 p.len) ∧ w'.cell? ⟨sb + 1, 2, none⟩ = some (.int .i64 p.hei)) ∧ w'.cell? ⟨gl, k * 3, none⟩ = some (.slice ast l.stn cst)) rfl (by kernel_rfl) (KS.out _ (Below.drew (Below.refl _ _))) (fun hS => ?_)
  simp only [List.replicate_succ, List.replicate_zero]
  (refine wpAnyZ_takeL (i := 0) (v := ?_) rfl (by kernel_rfl) (fun _ _ _ h => h) (Or.inl ⟨by rfl, ?_⟩) (by assumption) ?_; rotate_left; (focus (intro w' hSw; (try dsimp only at hSw); go_simp; try with_reducible rfl)); simp only [Act.put, List.setIfInBounds_toArray, List.set_cons_zero, List.set_cons_succ])
  (refine wpAnyZ_takeL (i := 2) (v := ?_) rfl (by kernel_rfl) (fun _ _ _ h => h) (Or.inl ⟨by rfl, ?_⟩) (by assumption) ?_; rotate_left; (focus (intro w' hSw; (try dsimp only at hSw); go_simp; try with_reducible rfl)); simp only [Act.put, List.setIfInBounds_toArray, List.set_cons_zero, List.set_cons_succ])
  (refine wpAnyZ_takeL (i := 3) (v := ?_) rfl (by kernel_rfl) (fun _ _ _ h => h) (Or.inl ⟨by rfl, ?_⟩) (by assumption) ?_; rotate_left; (focus (intro w' hSw; (try dsimp only at hSw); go_simp; try with_reducible rfl)); simp only [Act.put, List.setIfInBounds_toArray, List.set_cons_zero, List.set_cons_succ])
  (refine wpAnyZ_takeL (i := 4) (v := ?_) rfl (by kernel_rfl) (fun _ _ _ h => h) (Or.inl ⟨by rfl, ?_⟩) (by assumption) ?_; rotate_left; (focus (intro w' hSw; (try dsimp only at hSw); go_simp; try with_reducible rfl)); simp only [Act.put, List.setIfInBounds_toArray, List.set_cons_zero, List.set_cons_succ])
  (refine wpAnyZ_takeL (i := 5) (v := ?_) rfl (by kernel_rfl) (fun _ _ _ h => h) (Or.inl ⟨by rfl, ?_⟩) (by assumption) ?_; rotate_left; (focus (intro w' hSw; (try dsimp only at hSw); go_simp; try with_reducible rfl)); simp only [Act.put, List.setIfInBounds_toArray, List.set_cons_zero, List.set_cons_succ])
  (refine wpAnyZ_takeL (i := 7) (v := ?_) rfl (by kernel_rfl) (fun _ _ _ h => h) (Or.inl ⟨by rfl, ?_⟩) (by assumption) ?_; rotate_left; (focus (intro w' hSw; (try dsimp only at hSw); go_simp; try with_reducible rfl)); simp only [Act.put, List.setIfInBounds_toArray, List.set_cons_zero, List.set_cons_succ])
  (refine wpAnyZ_takeL (i := 8) (v := ?_) rfl (by kernel_rfl) (fun _ _ _ h => h) (Or.inl ⟨by rfl, ?_⟩) (by assumption) ?_; rotate_left; (focus (intro w' hSw; (try dsimp only at hSw); go_simp; try with_reducible rfl)); simp only [Act.put, List.setIfInBounds_toArray, List.set_cons_zero, List.set_cons_succ])
  (refine wpAnyZ_takeL (i := 9) (v := ?_) rfl (by kernel_rfl) (fun _ _ _ h => h) (Or.inl ⟨by rfl, ?_⟩) (by assumption) ?_; rotate_left; (focus (intro w' hSw; (try dsimp only at hSw); go_simp; try with_reducible rfl)); simp only [Act.put, List.setIfInBounds_toArray, List.set_cons_zero, List.set_cons_succ])
  (refine wpAnyZ_takeL (i := 10) (v := ?_) rfl (by kernel_rfl) (fun _ _ _ h => h) (Or.inl ⟨by rfl, ?_⟩) (by assumption) ?_; rotate_left; (focus (intro w' hSw; (try dsimp only at hSw); go_simp; try with_reducible rfl)); simp only [Act.put, List.setIfInBounds_toArray, List.set_cons_zero, List.set_cons_succ])
  (refine wpAnyZ_takeL (i := 11) (v := ?_) rfl (by kernel_rfl) (fun _ _ _ h => h) (Or.inl ⟨by rfl, ?_⟩) (by assumption) ?_; rotate_left; (focus (intro w' hSw; (try dsimp only at hSw); go_simp; try with_reducible rfl)); simp only [Act.put, List.setIfInBounds_toArray, List.set_cons_zero, List.set_cons_succ])
  (refine wpAnyZ_takeL (i := 12) (v := ?_) rfl (by kernel_rfl) (fun _ _ _ h => h) (Or.inl ⟨by rfl, ?_⟩) (by assumption) ?_; rotate_left; (focus (intro w' hSw; (try dsimp only at hSw); go_simp; try with_reducible rfl)); simp only [Act.put, List.setIfInBounds_toArray, List.set_cons_zero, List.set_cons_succ])
  (refine wpAnyZ_takeL (i := 13) (v := ?_) rfl (by kernel_rfl) (fun _ _ _ h => h) (Or.inl ⟨by rfl, ?_⟩) (by assumption) ?_; rotate_left; (focus (intro w' hSw; (try dsimp only at hSw); go_simp; try with_reducible rfl)); simp only [Act.put, List.setIfInBounds_toArray, List.set_cons_zero, List.set_cons_succ])
  (refine wpAnyZ_takeL (i := 14) (v := ?_) rfl (by kernel_rfl) (fun _ _ _ h => h) (Or.inl ⟨by rfl, ?_⟩) (by assumption) ?_; rotate_left; (focus (intro w' hSw; (try dsimp only at hSw); go_simp; try with_reducible rfl)); simp only [Act.put, List.setIfInBounds_toArray, List.set_cons_zero, List.set_cons_succ])
  refine wpAnyZ_ready (rs := [1, 15]) (by kernel_rfl) (by simp) ?_
  refine AllReadyZ.consL rfl (fun K hK => ?_) ?_
  · go_simp; refine hK.out _ _ (KS.out _ (by repeat (first | exact HB1.out | exact Below.refl _ _ | refine Below.drew ?_ | refine push ?_ _))) (fun hS => ?_)
    clear hK K
    simp only [List.set_cons_zero, List.set_cons_succ]
    refine wpAnyZ_ready (rs := [6, 15]) (by kernel_rfl) (by simp) ?_
    refine AllReadyZ.consL rfl (fun K hK => ?_) ?_
    · refine step_append_own0 (by rfl) (.tmp 168) (.tmp 172) 133 (by rfl) 186 i0 (.agg #[.int .i64 0, .int .i64 0, .int .i64 0, .int .i64 0]) 4 32 Tryz.underlying133 ii iz0 iz1 iz2 rfl (by decide) w5.heap.size _ (by rfl) (by first | exact Nat.le_refl _ | omega | (simp; done) | (simp; omega)) (by repeat (first | ((with_reducible refine new_at _ _ _ ?_); (first | rfl | (simp; done))) | with_reducible refine blk_drew ?_ | with_reducible refine blk_alloc ?_ _)) ast l.stn cst (stayList l.st l.stn) (by rfl) HN.out (stayList_length _ _) (stays_cells (HLL.out _ (by repeat (first | exact Below.refl _ _ | refine Below.drew ?_ | refine push ?_ _)))) (stayList_one _ _) (by unfold maxLen; omega) (by omega) ?_; intro p1 q1 u1 hg1 hr1 hat1; clear hat1; have HB1 : Hid (Below w5.heap.size w5 u1) := (by show Below _ _ _; refine after ?_ (grown_below hg1); exact (by repeat (first | exact Below.refl _ _ | refine Below.drew ?_ | refine push ?_ _))); refine hK.out _ _ (KS.out _ HB1.out) (fun hS => ?_)
      clear hK K
      simp only [Act.put, List.setIfInBounds_toArray, List.set_cons_zero, List.set_cons_succ]
      refine wpAnyZ_ready (rs := [15]) (by kernel_rfl) (by simp) ?_
      refine AllReadyZ.consL rfl (fun K hK => ?_) ?_
      · go_simp; refine hK.out _ _ (KS.out _ (by repeat (first | exact HB1.out | exact Below.refl _ _ | refine Below.drew ?_ | refine push ?_ _))) (fun hS => ?_)
        clear hK K
        simp only [List.set_cons_zero, List.set_cons_succ]
        refine wpAnyZ_ready (rs := [16]) (by kernel_rfl) (by simp) ?_
        refine AllReadyZ.consL rfl (fun K hK => ?_) ?_
        · refine step_append_lies _ (by rfl) (.tmp 173) (.tmp 182) 133 (by rfl) w5.heap.size 186 i0 (.agg #[.int .i64 0, .int .i64 0, .int .i64 0, .int .i64 0]) 4 32 Tryz.underlying133 ii iz0 iz1 iz2 rfl (by decide) _ l.stn (stayList l.st l.stn) (by rfl) (by first | exact hr1 | exact hr1.alloc _ | exact own_below (push (Below.refl _ _) _) hr1) _ 1 1 [.int .i64 who, .int .i64 (m : Int), .int .i64 p.len, .int .i64 p.hei] (by rfl) (by rfl) (by refine World.news_of_block (cs := #[.int .i64 who, .int .i64 (m : Int), .int .i64 p.len, .int .i64 p.hei]) (t := 186) (fr := (0, 0)) ?_; exact (by repeat (first | ((with_reducible refine new_at _ _ _ ?_); (first | rfl | (simp; done))) | with_reducible refine blk_drew ?_ | with_reducible refine blk_alloc ?_ _ | with_reducible refine blk_below ?_ (grown_below hg1)))) (by intro u hu; simp at hu; rcases hu with rfl | rfl | rfl | rfl <;> rfl) (by decide) (by unfold maxLen; omega) (by omega) (by first | exact HB1.out.size | (have := HB1.out.size; simp; omega)) _ rfl ?_; intro g2 cap2 u2 ho2 hg2 hat2 hlt2; refine (fun (HB2 : Hid (Below w5.heap.size w5 u2)) => ?_) (Below.grown ?_ hg2 ?_ (fun j hj => (hr1.lt j hj).1)); rotate_left; (focus (repeat (first | exact Below.refl _ _ | refine Below.drew ?_ | refine push ?_ _ | refine after ?_ (grown_below hg1)))); (focus (first | exact HB1.out.size | (have := HB1.out.size; simp; omega))); have q0 := (HB2.out.cell (p := ⟨gl, k * 3, none⟩) (blk_lt bGY)).trans LY0; have q1 := blk_free (blk_below bGY HB2.out) (k * 3); refine hK.out _ _ (KS.out _ HB2.out) (fun hS => ?_)
          clear hK K
          simp only [Act.put, List.setIfInBounds_toArray, List.set_cons_zero, List.set_cons_succ]
          (refine wpAnyZ_takeL (i := 17) (v := ?_) rfl (by kernel_rfl) (fun _ _ _ h => h) (Or.inl ⟨by rfl, ?_⟩) (by assumption) ?_; rotate_left; (focus (intro w' hSw; (try dsimp only at hSw); go_simp; try with_reducible rfl)); simp only [Act.put, List.setIfInBounds_toArray, List.set_cons_zero, List.set_cons_succ])
          (refine wpAnyZ_takeL (i := 18) (v := ?_) rfl (by kernel_rfl) (fun _ _ _ h => h) (Or.inl ⟨by rfl, ?_⟩) (by assumption) ?_; rotate_left; (focus (intro w' hSw; (try dsimp only at hSw); go_simp; try with_reducible rfl)); simp only [Act.put, List.setIfInBounds_toArray, List.set_cons_zero, List.set_cons_succ])
          refine wpAnyZ_ready (rs := [19]) (by kernel_rfl) (by simp) ?_
          refine AllReadyZ.lastL rfl (fun K hK => ?_)
          go_simp
          refine hK.out _ _ ?_
          clear hK K
          refine wpAnyZ_done (by kernel_rfl) ?_ _
          have HF : Hid _ := doSt (k := k) (n := l.stn + 1) (T := stayCat l.st l.stn (fun _ => ⟨who, (m : Int), p.len, p.hei⟩)) (v := ⟨leg, 0, false, who, p⟩) HO.out HQ.out HBG.out (after hbY HB2.out) (own_base (by rw [stayList_cat, stayList_succ, show stayList (fun _ => (⟨who, (m : Int), p.len, p.hei⟩ : Stay)) 0 = [] from rfl, List.nil_append]; exact ho2) hbY.size) (by rw [HLD.out]; exact .addStay m rfl rfl (by rw [← HSD.out, ← HLD.out]; exact HPI.out))
          go_wp2
          go_ret
          exact HF.out
        exact AllReadyZ.nil
      exact AllReadyZ.nil
    refine AllReadyZ.consL rfl (fun K hK => ?_) ?_
    · go_simp; refine hK.out _ _ (KS.out _ (by repeat (first | exact HB1.out | exact Below.refl _ _ | refine Below.drew ?_ | refine push ?_ _))) (fun hS => ?_)
      clear hK K
      simp only [List.set_cons_zero, List.set_cons_succ]
      refine wpAnyZ_ready (rs := [6]) (by kernel_rfl) (by simp) ?_
      refine AllReadyZ.consL rfl (fun K hK => ?_) ?_
      · refine step_append_own0 (by rfl) (.tmp 168) (.tmp 172) 133 (by rfl) 186 i0 (.agg #[.int .i64 0, .int .i64 0, .int .i64 0, .int .i64 0]) 4 32 Tryz.underlying133 ii iz0 iz1 iz2 rfl (by decide) w5.heap.size _ (by rfl) (by first | exact Nat.le_refl _ | omega | (simp; done) | (simp; omega)) (by repeat (first | ((with_reducible refine new_at _ _ _ ?_); (first | rfl | (simp; done))) | with_reducible refine blk_drew ?_ | with_reducible refine blk_alloc ?_ _)) ast l.stn cst (stayList l.st l.stn) (by rfl) HN.out (stayList_length _ _) (stays_cells (HLL.out _ (by repeat (first | exact Below.refl _ _ | refine Below.drew ?_ | refine push ?_ _)))) (stayList_one _ _) (by unfold maxLen; omega) (by omega) ?_; intro p1 q1 u1 hg1 hr1 hat1; clear hat1; have HB1 : Hid (Below w5.heap.size w5 u1) := (by show Below _ _ _; refine after ?_ (grown_below hg1); exact (by repeat (first | exact Below.refl _ _ | refine Below.drew ?_ | refine push ?_ _))); refine hK.out _ _ (KS.out _ HB1.out) (fun hS => ?_)
        clear hK K
        simp only [Act.put, List.setIfInBounds_toArray, List.set_cons_zero, List.set_cons_succ]
        refine wpAnyZ_ready (rs := [16]) (by kernel_rfl) (by simp) ?_
        refine AllReadyZ.consL rfl (fun K hK => ?_) ?_
        · refine step_append_lies _ (by rfl) (.tmp 173) (.tmp 182) 133 (by rfl) w5.heap.size 186 i0 (.agg #[.int .i64 0, .int .i64 0, .int .i64 0, .int .i64 0]) 4 32 Tryz.underlying133 ii iz0 iz1 iz2 rfl (by decide) _ l.stn (stayList l.st l.stn) (by rfl) (by first | exact hr1 | exact hr1.alloc _ | exact own_below (push (Below.refl _ _) _) hr1) _ 1 1 [.int .i64 who, .int .i64 (m : Int), .int .i64 p.len, .int .i64 p.hei] (by rfl) (by rfl) (by refine World.news_of_block (cs := #[.int .i64 who, .int .i64 (m : Int), .int .i64 p.len, .int .i64 p.hei]) (t := 186) (fr := (0, 0)) ?_; exact (by repeat (first | ((with_reducible refine new_at _ _ _ ?_); (first | rfl | (simp; done))) | with_reducible refine blk_drew ?_ | with_reducible refine blk_alloc ?_ _ | with_reducible refine blk_below ?_ (grown_below hg1)))) (by intro u hu; simp at hu; rcases hu with rfl | rfl | rfl | rfl <;> rfl) (by decide) (by unfold maxLen; omega) (by omega) (by first | exact HB1.out.size | (have := HB1.out.size; simp; omega)) _ rfl ?_; intro g2 cap2 u2 ho2 hg2 hat2 hlt2; refine (fun (HB2 : Hid (Below w5.heap.size w5 u2)) => ?_) (Below.grown ?_ hg2 ?_ (fun j hj => (hr1.lt j hj).1)); rotate_left; (focus (repeat (first | exact Below.refl _ _ | refine Below.drew ?_ | refine push ?_ _ | refine after ?_ (grown_below hg1)))); (focus (first | exact HB1.out.size | (have := HB1.out.size; simp; omega))); have q0 := (HB2.out.cell (p := ⟨gl, k * 3, none⟩) (blk_lt bGY)).trans LY0; have q1 := blk_free (blk_below bGY HB2.out) (k * 3); refine hK.out _ _ (KS.out _ HB2.out) (fun hS => ?_)
          clear hK K
          simp only [Act.put, List.setIfInBounds_toArray, List.set_cons_zero, List.set_cons_succ]
          (refine wpAnyZ_takeL (i := 17) (v := ?_) rfl (by kernel_rfl) (fun _ _ _ h => h) (Or.inl ⟨by rfl, ?_⟩) (by assumption) ?_; rotate_left; (focus (intro w' hSw; (try dsimp only at hSw); go_simp; try with_reducible rfl)); simp only [Act.put, List.setIfInBounds_toArray, List.set_cons_zero, List.set_cons_succ])
          (refine wpAnyZ_takeL (i := 18) (v := ?_) rfl (by kernel_rfl) (fun _ _ _ h => h) (Or.inl ⟨by rfl, ?_⟩) (by assumption) ?_; rotate_left; (focus (intro w' hSw; (try dsimp only at hSw); go_simp; try with_reducible rfl)); simp only [Act.put, List.setIfInBounds_toArray, List.set_cons_zero, List.set_cons_succ])
          refine wpAnyZ_ready (rs := [19]) (by kernel_rfl) (by simp) ?_
          refine AllReadyZ.lastL rfl (fun K hK => ?_)
          go_simp
          refine hK.out _ _ ?_
          clear hK K
          refine wpAnyZ_done (by kernel_rfl) ?_ _
          have HF : Hid _ := doSt (k := k) (n := l.stn + 1) (T := stayCat l.st l.stn (fun _ => ⟨who, (m : Int), p.len, p.hei⟩)) (v := ⟨leg, 0, false, who, p⟩) HO.out HQ.out HBG.out (after hbY HB2.out) (own_base (by rw [stayList_cat, stayList_succ, show stayList (fun _ => (⟨who, (m : Int), p.len, p.hei⟩ : Stay)) 0 = [] from rfl, List.nil_append]; exact ho2) hbY.size) (by rw [HLD.out]; exact .addStay m rfl rfl (by rw [← HSD.out, ← HLD.out]; exact HPI.out))
          go_wp2
          go_ret
          exact HF.out
        exact AllReadyZ.nil
      exact AllReadyZ.nil
    exact AllReadyZ.nil
  refine AllReadyZ.consL rfl (fun K hK => ?_) ?_
  · go_simp; refine hK.out _ _ (KS.out _ (by repeat (first | exact HB1.out | exact Below.refl _ _ | refine Below.drew ?_ | refine push ?_ _))) (fun hS => ?_)
    clear hK K
    simp only [List.set_cons_zero, List.set_cons_succ]
    refine wpAnyZ_ready (rs := [1]) (by kernel_rfl) (by simp) ?_
    refine AllReadyZ.consL rfl (fun K hK => ?_) ?_
    · go_simp; refine hK.out _ _ (KS.out _ (by repeat (first | exact HB1.out | exact Below.refl _ _ | refine Below.drew ?_ | refine push ?_ _))) (fun hS => ?_)
      clear hK K
      simp only [List.set_cons_zero, List.set_cons_succ]
      refine wpAnyZ_ready (rs := [6]) (by kernel_rfl) (by simp) ?_
      refine AllReadyZ.consL rfl (fun K hK => ?_) ?_
      · refine step_append_own0 (by rfl) (.tmp 168) (.tmp 172) 133 (by rfl) 186 i0 (.agg #[.int .i64 0, .int .i64 0, .int .i64 0, .int .i64 0]) 4 32 Tryz.underlying133 ii iz0 iz1 iz2 rfl (by decide) w5.heap.size _ (by rfl) (by first | exact Nat.le_refl _ | omega | (simp; done) | (simp; omega)) (by repeat (first | ((with_reducible refine new_at _ _ _ ?_); (first | rfl | (simp; done))) | with_reducible refine blk_drew ?_ | with_reducible refine blk_alloc ?_ _)) ast l.stn cst (stayList l.st l.stn) (by rfl) HN.out (stayList_length _ _) (stays_cells (HLL.out _ (by repeat (first | exact Below.refl _ _ | refine Below.drew ?_ | refine push ?_ _)))) (stayList_one _ _) (by unfold maxLen; omega) (by omega) ?_; intro p1 q1 u1 hg1 hr1 hat1; clear hat1; have HB1 : Hid (Below w5.heap.size w5 u1) := (by show Below _ _ _; refine after ?_ (grown_below hg1); exact (by repeat (first | exact Below.refl _ _ | refine Below.drew ?_ | refine push ?_ _))); refine hK.out _ _ (KS.out _ HB1.out) (fun hS => ?_)
        clear hK K
        simp only [Act.put, List.setIfInBounds_toArray, List.set_cons_zero, List.set_cons_succ]
        refine wpAnyZ_ready (rs := [16]) (by kernel_rfl) (by simp) ?_
        refine AllReadyZ.consL rfl (fun K hK => ?_) ?_
        · refine step_append_lies _ (by rfl) (.tmp 173) (.tmp 182) 133 (by rfl) w5.heap.size 186 i0 (.agg #[.int .i64 0, .int .i64 0, .int .i64 0, .int .i64 0]) 4 32 Tryz.underlying133 ii iz0 iz1 iz2 rfl (by decide) _ l.stn (stayList l.st l.stn) (by rfl) (by first | exact hr1 | exact hr1.alloc _ | exact own_below (push (Below.refl _ _) _) hr1) _ 1 1 [.int .i64 who, .int .i64 (m : Int), .int .i64 p.len, .int .i64 p.hei] (by rfl) (by rfl) (by refine World.news_of_block (cs := #[.int .i64 who, .int .i64 (m : Int), .int .i64 p.len, .int .i64 p.hei]) (t := 186) (fr := (0, 0)) ?_; exact (by repeat (first | ((with_reducible refine new_at _ _ _ ?_); (first | rfl | (simp; done))) | with_reducible refine blk_drew ?_ | with_reducible refine blk_alloc ?_ _ | with_reducible refine blk_below ?_ (grown_below hg1)))) (by intro u hu; simp at hu; rcases hu with rfl | rfl | rfl | rfl <;> rfl) (by decide) (by unfold maxLen; omega) (by omega) (by first | exact HB1.out.size | (have := HB1.out.size; simp; omega)) _ rfl ?_; intro g2 cap2 u2 ho2 hg2 hat2 hlt2; refine (fun (HB2 : Hid (Below w5.heap.size w5 u2)) => ?_) (Below.grown ?_ hg2 ?_ (fun j hj => (hr1.lt j hj).1)); rotate_left; (focus (repeat (first | exact Below.refl _ _ | refine Below.drew ?_ | refine push ?_ _ | refine after ?_ (grown_below hg1)))); (focus (first | exact HB1.out.size | (have := HB1.out.size; simp; omega))); have q0 := (HB2.out.cell (p := ⟨gl, k * 3, none⟩) (blk_lt bGY)).trans LY0; have q1 := blk_free (blk_below bGY HB2.out) (k * 3); refine hK.out _ _ (KS.out _ HB2.out) (fun hS => ?_)
          clear hK K
          simp only [Act.put, List.setIfInBounds_toArray, List.set_cons_zero, List.set_cons_succ]
          (refine wpAnyZ_takeL (i := 17) (v := ?_) rfl (by kernel_rfl) (fun _ _ _ h => h) (Or.inl ⟨by rfl, ?_⟩) (by assumption) ?_; rotate_left; (focus (intro w' hSw; (try dsimp only at hSw); go_simp; try with_reducible rfl)); simp only [Act.put, List.setIfInBounds_toArray, List.set_cons_zero, List.set_cons_succ])
          (refine wpAnyZ_takeL (i := 18) (v := ?_) rfl (by kernel_rfl) (fun _ _ _ h => h) (Or.inl ⟨by rfl, ?_⟩) (by assumption) ?_; rotate_left; (focus (intro w' hSw; (try dsimp only at hSw); go_simp; try with_reducible rfl)); simp only [Act.put, List.setIfInBounds_toArray, List.set_cons_zero, List.set_cons_succ])
          refine wpAnyZ_ready (rs := [19]) (by kernel_rfl) (by simp) ?_
          refine AllReadyZ.lastL rfl (fun K hK => ?_)
          go_simp
          refine hK.out _ _ ?_
          clear hK K
          refine wpAnyZ_done (by kernel_rfl) ?_ _
          have HF : Hid _ := doSt (k := k) (n := l.stn + 1) (T := stayCat l.st l.stn (fun _ => ⟨who, (m : Int), p.len, p.hei⟩)) (v := ⟨leg, 0, false, who, p⟩) HO.out HQ.out HBG.out (after hbY HB2.out) (own_base (by rw [stayList_cat, stayList_succ, show stayList (fun _ => (⟨who, (m : Int), p.len, p.hei⟩ : Stay)) 0 = [] from rfl, List.nil_append]; exact ho2) hbY.size) (by rw [HLD.out]; exact .addStay m rfl rfl (by rw [← HSD.out, ← HLD.out]; exact HPI.out))
          go_wp2
          go_ret
          exact HF.out
        exact AllReadyZ.nil
      exact AllReadyZ.nil
    exact AllReadyZ.nil
  exact AllReadyZ.nil

end Go.Proofs.YtfallpinmhbemaaGreatDoor

namespace Go.Proofs.YtfallpinmhbemaaGreatDoor
open Go.RowKit

set_option maxHeartbeats 25600000 in
set_option maxRecDepth 100000 in
theorem l7Do_e (g base N R k csa cld cbk : Nat) (asa ald abk : Option Addr) (leg who : Int) (pe len hei cl be : Int) (x : Off) (L C A B D E : Nat → Value) (w : World) (hq : w.heap[g]? = some (.cells #[.slice asa N csa, .slice ald N cld, .slice abk R cbk] 66 (0, 0))) (ho : OwnOff w base (.slice asa N csa) (.slice ald N cld) (.slice abk R cbk) N N R x L C A B D E) (hN : N ≤ 1048576) (hk : findIx x.sa leg N = k) (hlt : k < N) (hok : LoadOk (x.sa k) (x.ld k)) :
    Calls Tryz.prog 122 #[.pointer (some ⟨g, 0, none⟩), .agg #[.int .i64 leg, .int .i64 1, .bool false, .int .i64 who, .int .i64 pe, .int .i64 len, .int .i64 hei, .int .i64 cl, .bool true, .int .i64 be]] w fun e w' => DoAns g base N R k csa cld cbk asa ald abk ⟨leg, 1, false, who, ⟨pe, len, hei, cl, true, be⟩⟩ x L C E w e w' := by
  obtain ⟨i0, ii, iz0, iz1, iz2⟩ := info_parts Tryz.infoRoom
  obtain ⟨gl, rfl, hbg, hlg⟩ := own_addr ho.ld.row (by omega)
  have HO : Hid (OwnOff w base (.slice asa N csa) (.slice (some ⟨gl, 0, none⟩) N cld) (.slice abk R cbk) N N R x L C A B D E) := ho
  have HK : Hid (findIx x.sa leg N = k) := hk
  have HOK : Hid (LoadOk (x.sa k) (x.ld k)) := hok
  have HBG : Hid (base ≤ w.heap.size) := by show base ≤ w.heap.size; omega
  have HQ : Hid (w.heap[g]? = some (.cells #[.slice asa N csa, .slice (some ⟨gl, 0, none⟩) N cld, .slice abk R cbk] 66 (0, 0))) := hq
  have HSAt : Hid (SailsAt w asa N x.sa) := ho.sa.at
  obtain ⟨cs, hgl⟩ := own_blockE ho.ld.row gl rfl
  obtain ⟨ast, cst, eA, m1, m2, m3⟩ := own_form (ho.ld.st k hlt)
  obtain ⟨aro, cro, eB, m4, m5, m6⟩ := own_form (ho.ld.ro k hlt)
  obtain ⟨ase, cse, eD, m7, m8, m9⟩ := own_form (ho.ld.se k hlt)
  have HST : Hid (w.ownsRow base 186 4 (.slice ast (x.ld k).stn cst) (x.ld k).stn (stayList (x.ld k).st (x.ld k).stn)) := by show w.ownsRow _ _ _ _ _ _; rw [← eA]; exact ho.ld.st k hlt
  have HRO : Hid (w.ownsRow base 190 4 (.slice aro (x.ld k).ron cro) (x.ld k).ron (roomList (x.ld k).ro (x.ld k).ron)) := by show w.ownsRow _ _ _ _ _ _; rw [← eB]; exact ho.ld.ro k hlt
  have HSE : Hid (w.ownsRow base 138 2 (.slice ase (x.ld k).sen cse) (x.ld k).sen (seatList (x.ld k).se (x.ld k).sen)) := by show w.ownsRow _ _ _ _ _ _; rw [← eD]; exact ho.ld.se k hlt
  have HL0 : Hid (w.cell? ⟨gl, k * 3, none⟩ = some (.slice ast (x.ld k).stn cst)) := by
    have h := own_cell ho.ld.row (k * 3 + 0) (by omega) rfl
    rw [recCell_at 3 _ k 0 (by decide)] at h
    rw [← eA]
    exact h
  have HL1 : Hid (w.cell? ⟨gl, k * 3 + 1, none⟩ = some (.slice aro (x.ld k).ron cro)) := by
    have h := own_cell ho.ld.row (k * 3 + 1) (by omega) rfl
    rw [recCell_at 3 _ k 1 (by decide)] at h
    rw [← eB]
    exact h
  have HL2 : Hid (w.cell? ⟨gl, k * 3 + 2, none⟩ = some (.slice ase (x.ld k).sen cse)) := by
    have h := own_cell ho.ld.row (k * 3 + 2) (by omega) rfl
    rw [recCell_at 3 _ k 2 (by decide)] at h
    rw [← eD]
    exact h
  have HNI : Hid ((ast = none → (x.ld k).stn = 0 ∧ cst = 0) ∧ (aro = none → (x.ld k).ron = 0 ∧ cro = 0) ∧ (ase = none → (x.ld k).sen = 0 ∧ cse = 0)) := ⟨m3, m6, m9⟩
  obtain ⟨s, hsd⟩ : ∃ s, s = x.sa k := ⟨_, rfl⟩
  obtain ⟨l, hld⟩ : ∃ l, l = x.ld k := ⟨_, rfl⟩
  rw [← hld] at HST HRO HSE HL0 HL1 HL2 HNI HOK
  rw [← hsd] at HOK
  have HSD : Hid (s = x.sa k) := hsd
  have HLD : Hid (l = x.ld k) := hld
  have HGL : Hid (w.heap[gl]? = some (.cells cs 136 (0, 0))) := hgl
  obtain ⟨sb0, so, la, lc, ca, cc, rfl, f0, f1, f2, f3, f4, f5, f6, f7, hla, hca, sla, sca⟩ := HSAt.out k hlt
  rw [← hsd] at f0 f1 f2 f3 f4 f5 f6 f7 hla hca sla sca
  have HPL : Hid (PairsAt w la s.la ∧ PairsAt w ca s.ca) := ⟨hla, hca⟩
  have HCS : Hid (∀ W, Below w.heap.size w W → W.cell? ⟨sb0, so + k * 8, none⟩ = some (.int .i64 s.id) ∧ W.cell? ⟨sb0, so + k * 8 + 1, none⟩ = some (.string s.fr) ∧ W.cell? ⟨sb0, so + k * 8 + 2, none⟩ = some (.string s.dst) ∧ W.cell? ⟨sb0, so + k * 8 + 3, none⟩ = some (.int .i64 s.dep) ∧ W.cell? ⟨sb0, so + k * 8 + 4, none⟩ = some (.int .i64 s.arr) ∧ W.cell? ⟨sb0, so + k * 8 + 5, none⟩ = some (.slice la s.la.n lc) ∧ W.cell? ⟨sb0, so + k * 8 + 6, none⟩ = some (.slice ca s.ca.n cc) ∧ W.cell? ⟨sb0, so + k * 8 + 7, none⟩ = some (.int .i64 s.most)) := fun W hb => by
    have lsb := World.block_lt_of_cell? w _ f0
    exact ⟨(hb.cell (p := ⟨sb0, so + k * 8, none⟩) lsb).trans f0, (hb.cell (p := ⟨sb0, so + k * 8 + 1, none⟩) lsb).trans f1, (hb.cell (p := ⟨sb0, so + k * 8 + 2, none⟩) lsb).trans f2, (hb.cell (p := ⟨sb0, so + k * 8 + 3, none⟩) lsb).trans f3, (hb.cell (p := ⟨sb0, so + k * 8 + 4, none⟩) lsb).trans f4, (hb.cell (p := ⟨sb0, so + k * 8 + 5, none⟩) lsb).trans f5, (hb.cell (p := ⟨sb0, so + k * 8 + 6, none⟩) lsb).trans f6, (hb.cell (p := ⟨sb0, so + k * 8 + 7, none⟩) lsb).trans f7⟩
  clear f0 f1 f2 f3 f4 f5 f6 f7 hla hca sla sca hsd hld hgl eA eB eD m1 m2 m3 m4 m5 m6 m7 m8 m9 hok hk hbg
  have i1 : (0 : Int) ≤ (k : Int) := by omega
  have i2 : (k : Int) < (N : Int) := by omega
  have hb0 : Below w.heap.size w (w.alloc (.cells #[.int .i64 leg, .int .i64 1, .bool false, .int .i64 who, .int .i64 pe, .int .i64 len, .int .i64 hei, .int .i64 cl, .bool true, .int .i64 be] 175)) := push (Below.refl _ _) _
  have b0 := heap_alloc_new w (.cells #[.int .i64 leg, .int .i64 1, .bool false, .int .i64 who, .int .i64 pe, .int .i64 len, .int .i64 hei, .int .i64 cl, .bool true, .int .i64 be] 175)
  go_enter Tryz.func122, Tryz.ntmps122
  go_upto_region 1 with fail
  generalize (w.alloc (.cells #[.int .i64 leg, .int .i64 1, .bool false, .int .i64 who, .int .i64 pe, .int .i64 len, .int .i64 hei, .int .i64 cl, .bool true, .int .i64 be] 175)) = W at hb0 b0 ⊢
  have z0 : ∀ G : Grown W, G.val.cell? ⟨g, 0, none⟩ = some (.slice (some ⟨sb0, so, none⟩) N csa) := fun G => blk_cell (blk_below HQ.out (after hb0 G.bel)) 0 _ rfl
  have z1 : ∀ G : Grown W, G.val.cell? ⟨w.heap.size, 0, none⟩ = some (.int .i64 leg) := fun G => blk_cell (blk_below b0 G.bel) 0 _ rfl
  refine wp_region_grow (by kernel_rfl) (by kernel_rfl) ?_
  repeat (first | go_big_quiet_skip | (go_big_quiet_want; go_big_quiet_op; first | go_big_quiet_on | (apply Exists.intro; refine ⟨fun G => ?_, ?_⟩; (focus (first | (go_at_call 110; refine grown_call (v := .int .i64 (k : Int)) ((l3At_any _ N csa x.sa leg _ hN (HSAt.out.below (after hb0 G.bel))).mono ?_); rintro e w2 ⟨he, hb2⟩; refine ⟨?_, hb2⟩; rw [HK.out] at he; rcases he with ⟨_, rfl⟩ | ⟨h, _⟩; rfl; omega))); go_big_quiet_on)))
  refine wpQuiet_nil ?_
  rintro _ ⟨G, rfl⟩
  clear z0 z1
  have hbG := after hb0 G.bel
  have bW := blk_below b0 G.bel
  obtain ⟨c0, c1, c2, c3, c4, c5, c6, c7⟩ := HCS.out G.val hbG
  have y0 := blk_cell (blk_below HQ.out hbG) 0 _ rfl
  have y1 : ∀ o, (G.val.alloc o).cell? ⟨g, 1, none⟩ = some (.slice (some ⟨gl, 0, none⟩) N cld) := fun o => blk_cell (blk_below HQ.out (push hbG o)) 1 _ rfl
  have y4 : ∀ o, (G.val.alloc o).cell? ⟨w.heap.size, 4, none⟩ = some (.int .i64 pe) := fun o => blk_cell (blk_alloc bW o) 4 _ rfl
  have y5 : ∀ o, (G.val.alloc o).cell? ⟨w.heap.size, 5, none⟩ = some (.int .i64 len) := fun o => blk_cell (blk_alloc bW o) 5 _ rfl
  have y6 : ∀ o, (G.val.alloc o).cell? ⟨w.heap.size, 6, none⟩ = some (.int .i64 hei) := fun o => blk_cell (blk_alloc bW o) 6 _ rfl
  have y7 : ∀ o, (G.val.alloc o).cell? ⟨w.heap.size, 7, none⟩ = some (.int .i64 cl) := fun o => blk_cell (blk_alloc bW o) 7 _ rfl
  have y8 : ∀ o, (G.val.alloc o).cell? ⟨w.heap.size, 8, none⟩ = some (.bool true) := fun o => blk_cell (blk_alloc bW o) 8 _ rfl
  have y9 : ∀ o, (G.val.alloc o).cell? ⟨w.heap.size, 9, none⟩ = some (.int .i64 be) := fun o => blk_cell (blk_alloc bW o) 9 _ rfl
  go_upto_region 8 with fail
  have hbX : Below w.heap.size w ((G.val.alloc (.cells #[.int .i64 s.id, .string s.fr, .string s.dst, .int .i64 s.dep, .int .i64 s.arr, .slice la s.la.n lc, .slice ca s.ca.n cc, .int .i64 s.most] 37)).alloc (.cells #[.int .i64 pe, .int .i64 len, .int .i64 hei, .int .i64 cl, .bool true, .int .i64 be] 25)) := push (push hbG _) _
  have bWX := blk_alloc (blk_alloc bW (.cells #[.int .i64 s.id, .string s.fr, .string s.dst, .int .i64 s.dep, .int .i64 s.arr, .slice la s.la.n lc, .slice ca s.ca.n cc, .int .i64 s.most] 37)) (.cells #[.int .i64 pe, .int .i64 len, .int .i64 hei, .int .i64 cl, .bool true, .int .i64 be] 25)
  have bSX := blk_alloc (heap_alloc_new G.val (.cells #[.int .i64 s.id, .string s.fr, .string s.dst, .int .i64 s.dep, .int .i64 s.arr, .slice la s.la.n lc, .slice ca s.ca.n cc, .int .i64 s.most] 37)) (.cells #[.int .i64 pe, .int .i64 len, .int .i64 hei, .int .i64 cl, .bool true, .int .i64 be] 25)
  have bPX := new2 G.val (.cells #[.int .i64 s.id, .string s.fr, .string s.dst, .int .i64 s.dep, .int .i64 s.arr, .slice la s.la.n lc, .slice ca s.ca.n cc, .int .i64 s.most] 37) (.cells #[.int .i64 pe, .int .i64 len, .int .i64 hei, .int .i64 cl, .bool true, .int .i64 be] 25)
  generalize hx0 : (G.val.alloc (.cells #[.int .i64 s.id, .string s.fr, .string s.dst, .int .i64 s.dep, .int .i64 s.arr, .slice la s.la.n lc, .slice ca s.ca.n cc, .int .i64 s.most] 37)).alloc (.cells #[.int .i64 pe, .int .i64 len, .int .i64 hei, .int .i64 cl, .bool true, .int .i64 be] 25) = X at hbX bWX bSX bPX ⊢
  generalize hsb : G.val.heap.size = sb at bSX bPX ⊢
  clear c0 c1 c2 c3 c4 c5 c6 c7 y0 y1 y4 y5 y6 y7 y8 y9 bW hbG hb0 b0 hx0 hsb G W
  have w1 := blk_cell bWX 1 _ rfl
  have w2 := blk_cell bWX 2 _ rfl
  have w3 := blk_cell bWX 3 _ rfl
  have L0 : X.cell? ⟨gl, k * 3, none⟩ = some (.slice ast l.stn cst) := (hbX.cell (p := ⟨gl, k * 3, none⟩) hlg).trans HL0.out
  have L1 : X.cell? ⟨gl, k * 3 + 1, none⟩ = some (.slice aro l.ron cro) := (hbX.cell (p := ⟨gl, k * 3 + 1, none⟩) hlg).trans HL1.out
  have L2 : X.cell? ⟨gl, k * 3 + 2, none⟩ = some (.slice ase l.sen cse) := (hbX.cell (p := ⟨gl, k * 3 + 2, none⟩) hlg).trans HL2.out
  have bG := blk_below HGL.out hbX
  obtain ⟨rb, hrb⟩ := rIx_some l.ron s.ca.n (BerthP s.ca l.ron l.ro cl be)
  have HPB : Hid (RIx l.ron s.ca.n (BerthP s.ca l.ron l.ro cl be) rb) := hrb
  clear hrb
  have s5 : ∀ G : Grown X, G.val.cell? ⟨sb, 6, none⟩ = some (.slice ca s.ca.n cc) := fun G => blk_cell (blk_below bSX G.bel) 6 _ rfl
  have s6 : ∀ G : Grown X, G.val.cell? ⟨gl, k * 3 + 1, none⟩ = some (.slice aro l.ron cro) := fun G => (G.bel.cell (p := ⟨gl, k * 3 + 1, none⟩) (blk_lt bG)).trans L1
  have p1 : ∀ G : Grown X, G.val.cell? ⟨sb + 1, 3, none⟩ = some (.int .i64 cl) := fun G => blk_cell (blk_below bPX G.bel) 3 _ rfl
  have p2 : ∀ G : Grown X, G.val.cell? ⟨sb + 1, 5, none⟩ = some (.int .i64 be) := fun G => blk_cell (blk_below bPX G.bel) 5 _ rfl
  go_upto_region 34 with fail
  refine wp_region_grow (by kernel_rfl) (by kernel_rfl) ?_
  repeat (first | go_big_quiet_skip | (go_big_quiet_want; go_big_quiet_op; first | go_big_quiet_on | (apply Exists.intro; refine ⟨fun G => ?_, ?_⟩; (focus (first | (go_at_call 141; refine grown_call (v := .int .i64 rb) ((l5Berths_any ca aro s.ca.n cc l.ron cro s.ca l.ro cl be _ rfl HOK.out.2.1 (HPL.out.2.below (after hbX G.bel)) ((rooms_of_own HRO.out).below (after hbX G.bel))).mono ?_); rintro e w2 ⟨⟨r', rfl, o1⟩, hb2⟩; exact ⟨by rw [rIx_one o1 HPB.out], hb2⟩))); go_big_quiet_on)))
  refine wpQuiet_nil ?_
  rintro _ ⟨G, rfl⟩
  have hbY := after hbX G.bel
  have bWY := blk_below bWX G.bel
  have bSY := blk_below bSX G.bel
  have bPY := blk_below bPX G.bel
  have bGY := blk_below bG G.bel
  clear w1 w2 w3 L0 L1 L2 s5 s6 p1 p2
  generalize G.val = W5 at hbY bWY bSY bPY bGY ⊢
  clear hbX bWX bSX bPX bG G X
  have r4 := blk_cell bPY 4 _ rfl
  have r5 := blk_cell bPY 5 _ rfl
  obtain ⟨r, hr0⟩ := rIx_some l.ron s.ca.n (WholeP s.ca l.ron l.ro cl pe)
  have HPI : Hid (RIx l.ron s.ca.n (WholeP s.ca l.ron l.ro cl pe) r) := hr0
  clear hr0
  have s5 : ∀ G : Grown W5, G.val.cell? ⟨sb, 6, none⟩ = some (.slice ca s.ca.n cc) := fun G => blk_cell (blk_below bSY G.bel) 6 _ rfl
  have s6 : ∀ G : Grown W5, G.val.cell? ⟨gl, k * 3 + 1, none⟩ = some (.slice aro l.ron cro) := fun G => ((after hbY G.bel).cell (p := ⟨gl, k * 3 + 1, none⟩) hlg).trans HL1.out
  have p1 : ∀ G : Grown W5, G.val.cell? ⟨sb + 1, 3, none⟩ = some (.int .i64 cl) := fun G => blk_cell (blk_below bPY G.bel) 3 _ rfl
  have p2 : ∀ G : Grown W5, G.val.cell? ⟨sb + 1, 0, none⟩ = some (.int .i64 pe) := fun G => blk_cell (blk_below bPY G.bel) 0 _ rfl
  go_upto_region 37 with fail
  refine wp_region_grow (by kernel_rfl) (by kernel_rfl) ?_
  repeat (first | go_big_quiet_skip | (go_big_quiet_want; go_big_quiet_op; first | go_big_quiet_on | (apply Exists.intro; refine ⟨fun G => ?_, ?_⟩; (focus (first | (go_at_call 142; refine grown_call (v := .int .i64 r) ((l5Whole_any ca aro s.ca.n cc l.ron cro s.ca l.ro cl pe _ rfl HOK.out.2.1 (HPL.out.2.below (after hbY G.bel)) ((rooms_of_own HRO.out).below (after hbY G.bel))).mono ?_); rintro e w2 ⟨⟨r', rfl, o1⟩, hb2⟩; exact ⟨by rw [rIx_one o1 HPI.out], hb2⟩))); go_big_quiet_on)))
  refine wpQuiet_nil ?_
  rintro _ ⟨G, rfl⟩
  have hbV := after hbY G.bel
  have bWV := blk_below bWY G.bel
  have bSV := blk_below bSY G.bel
  have bPV := blk_below bPY G.bel
  have bGV := blk_below bGY G.bel
  clear s5 s6 p1 p2 r4 r5
  generalize G.val = w5 at hbV bWV bSV bPV bGV ⊢
  clear hbY bWY bSY bPY bGY G W5
  have hbY := hbV
  have bWY := bWV
  have bSY := bSV
  have bPY := bPV
  have bGY := bGV
  clear hbV bWV bSV bPV bGV
  have r4 := blk_cell bPY 4 _ rfl
  by_cases hr : r < 0
  · have e1 : decide (r < 0) = true := decide_eq_true hr
    have HF : Hid _ := doNo (k := k) (code := 6) (v := ⟨leg, 1, false, who, ⟨pe, len, hei, cl, true, be⟩⟩) HO.out HQ.out hbY (by
      refine .whole rfl rfl rfl ?_
      rw [← HSD.out, ← HLD.out]
      rcases HPI.out with ⟨j, h, _⟩ | ⟨h, h2⟩
      · omega
      · exact .inr ⟨rfl, h2⟩)
    go_wp2
    go_ret
    exact HF.out
  obtain ⟨m, rfl⟩ : ∃ m : Nat, r = (m : Int) := ⟨r.toNat, by omega⟩
  have e1 : decide ((m : Int) < 0) = false := decide_eq_false hr
  clear hr
  have HMC : Hid (m < s.ca.n) := (rIx_at HPI.out).2.1
  obtain ⟨cb, co, rfl, k1, k2⟩ := HPL.out.2 m HMC.out
  have hcb := World.block_lt_of_cell? w _ k1
  have y2 := (hbY.cell (p := ⟨cb, co + m * 2 + 1, none⟩) hcb).trans k2
  have j1 : (0 : Int) ≤ (m : Int) := by omega
  have j2 : (m : Int) < (s.ca.n : Int) := by have := HMC.out; omega
  have r6 := blk_cell bSY 6 _ rfl
  clear k1 k2
  go_upto_region 42 with fail
  have HN : Hid (aro = none → l.ron = 0 ∧ cro = 0) := HNI.out.2.1
  have HLL : Hid (∀ z, Below w5.heap.size w5 z → RoomsAt z aro l.ron l.ro) := fun z h => (rooms_of_own HRO.out).below (after hbY h)
  have hn60 : l.ron ≤ 60 := HOK.out.2.1.2.1
  have LY0 : w5.cell? ⟨gl, k * 3 + 1, none⟩ = some (.slice aro l.ron cro) := (hbY.cell (p := ⟨gl, k * 3 + 1, none⟩) hlg).trans HL1.out
  have KS : Hid (∀ z, Below w5.heap.size w5 z → (z.cell? ⟨w.heap.size, 3, none⟩ = some (.int .i64 who) ∧ z.cell? ⟨sb + 1, 4, none⟩ = some (.bool true)) ∧ z.cell? ⟨gl, k * 3 + 1, none⟩ = some (.slice aro l.ron cro)) := fun z h => ⟨⟨blk_cell (blk_below bWY h) 3 _ rfl, blk_cell (blk_below bPY h) 4 _ rfl⟩, (h.cell (p := ⟨gl, k * 3 + 1, none⟩) (blk_lt bGY)).trans LY0⟩
  refine wp_region_z 18 19 (fun w' => (w'.cell? ⟨w.heap.size, 3, none⟩ = some (.int .i64 who) ∧ w'.cell? ⟨sb + 1, 4, none⟩ = some (.bool true)) ∧ w'.cell? ⟨gl, k * 3 + 1, none⟩ = some (.slice aro l.ron cro)) rfl (by kernel_rfl) (KS.out _ (Below.drew (Below.refl _ _))) (fun hS => ?_)
  simp only [List.replicate_succ, List.replicate_zero]
  (refine wpAnyZ_takeL (i := 0) (v := ?_) rfl (by kernel_rfl) (fun _ _ _ h => h) (Or.inl ⟨by rfl, ?_⟩) (by assumption) ?_; rotate_left; (focus (intro w' hSw; (try dsimp only at hSw); go_simp; try with_reducible rfl)); simp only [Act.put, List.setIfInBounds_toArray, List.set_cons_zero, List.set_cons_succ])
  (refine wpAnyZ_takeL (i := 2) (v := ?_) rfl (by kernel_rfl) (fun _ _ _ h => h) (Or.inl ⟨by rfl, ?_⟩) (by assumption) ?_; rotate_left; (focus (intro w' hSw; (try dsimp only at hSw); go_simp; try with_reducible rfl)); simp only [Act.put, List.setIfInBounds_toArray, List.set_cons_zero, List.set_cons_succ])
  (refine wpAnyZ_takeL (i := 3) (v := ?_) rfl (by kernel_rfl) (fun _ _ _ h => h) (Or.inl ⟨by rfl, ?_⟩) (by assumption) ?_; rotate_left; (focus (intro w' hSw; (try dsimp only at hSw); go_simp; try with_reducible rfl)); simp only [Act.put, List.setIfInBounds_toArray, List.set_cons_zero, List.set_cons_succ])
  (refine wpAnyZ_takeL (i := 4) (v := ?_) rfl (by kernel_rfl) (fun _ _ _ h => h) (Or.inl ⟨by rfl, ?_⟩) (by assumption) ?_; rotate_left; (focus (intro w' hSw; (try dsimp only at hSw); go_simp; try with_reducible rfl)); simp only [Act.put, List.setIfInBounds_toArray, List.set_cons_zero, List.set_cons_succ])
  (refine wpAnyZ_takeL (i := 5) (v := ?_) rfl (by kernel_rfl) (fun _ _ _ h => h) (Or.inl ⟨by rfl, ?_⟩) (by assumption) ?_; rotate_left; (focus (intro w' hSw; (try dsimp only at hSw); go_simp; try with_reducible rfl)); simp only [Act.put, List.setIfInBounds_toArray, List.set_cons_zero, List.set_cons_succ])
  (refine wpAnyZ_takeL (i := 7) (v := ?_) rfl (by kernel_rfl) (fun _ _ _ h => h) (Or.inl ⟨by rfl, ?_⟩) (by assumption) ?_; rotate_left; (focus (intro w' hSw; (try dsimp only at hSw); go_simp; try with_reducible rfl)); simp only [Act.put, List.setIfInBounds_toArray, List.set_cons_zero, List.set_cons_succ])
  (refine wpAnyZ_takeL (i := 8) (v := ?_) rfl (by kernel_rfl) (fun _ _ _ h => h) (Or.inl ⟨by rfl, ?_⟩) (by assumption) ?_; rotate_left; (focus (intro w' hSw; (try dsimp only at hSw); go_simp; try with_reducible rfl)); simp only [Act.put, List.setIfInBounds_toArray, List.set_cons_zero, List.set_cons_succ])
  (refine wpAnyZ_takeL (i := 9) (v := ?_) rfl (by kernel_rfl) (fun _ _ _ h => h) (Or.inl ⟨by rfl, ?_⟩) (by assumption) ?_; rotate_left; (focus (intro w' hSw; (try dsimp only at hSw); go_simp; try with_reducible rfl)); simp only [Act.put, List.setIfInBounds_toArray, List.set_cons_zero, List.set_cons_succ])
  (refine wpAnyZ_takeL (i := 10) (v := ?_) rfl (by kernel_rfl) (fun _ _ _ h => h) (Or.inl ⟨by rfl, ?_⟩) (by assumption) ?_; rotate_left; (focus (intro w' hSw; (try dsimp only at hSw); go_simp; try with_reducible rfl)); simp only [Act.put, List.setIfInBounds_toArray, List.set_cons_zero, List.set_cons_succ])
  (refine wpAnyZ_takeL (i := 11) (v := ?_) rfl (by kernel_rfl) (fun _ _ _ h => h) (Or.inl ⟨by rfl, ?_⟩) (by assumption) ?_; rotate_left; (focus (intro w' hSw; (try dsimp only at hSw); go_simp; try with_reducible rfl)); simp only [Act.put, List.setIfInBounds_toArray, List.set_cons_zero, List.set_cons_succ])
  (refine wpAnyZ_takeL (i := 12) (v := ?_) rfl (by kernel_rfl) (fun _ _ _ h => h) (Or.inl ⟨by rfl, ?_⟩) (by assumption) ?_; rotate_left; (focus (intro w' hSw; (try dsimp only at hSw); go_simp; try with_reducible rfl)); simp only [Act.put, List.setIfInBounds_toArray, List.set_cons_zero, List.set_cons_succ])
  (refine wpAnyZ_takeL (i := 13) (v := ?_) rfl (by kernel_rfl) (fun _ _ _ h => h) (Or.inl ⟨by rfl, ?_⟩) (by assumption) ?_; rotate_left; (focus (intro w' hSw; (try dsimp only at hSw); go_simp; try with_reducible rfl)); simp only [Act.put, List.setIfInBounds_toArray, List.set_cons_zero, List.set_cons_succ])
  refine wpAnyZ_ready (rs := [1, 14]) (by kernel_rfl) (by simp) ?_
  refine AllReadyZ.consL rfl (fun K hK => ?_) ?_
  · go_simp; refine hK.out _ _ (KS.out _ (by repeat (first | exact HB1.out | exact Below.refl _ _ | refine Below.drew ?_ | refine push ?_ _))) (fun hS => ?_)
    clear hK K
    simp only [List.set_cons_zero, List.set_cons_succ]
    refine wpAnyZ_ready (rs := [6, 14]) (by kernel_rfl) (by simp) ?_
    refine AllReadyZ.consL rfl (fun K hK => ?_) ?_
    · refine step_append_own0 (by rfl) (.tmp 227) (.tmp 231) 134 (by rfl) 190 i0 (.agg #[.int .i64 0, .int .i64 0, .int .i64 0, .bool false]) 4 32 Tryz.underlying134 ii iz0 iz1 iz2 rfl (by decide) w5.heap.size _ (by rfl) (by first | exact Nat.le_refl _ | omega | (simp; done) | (simp; omega)) (by repeat (first | ((with_reducible refine new_at _ _ _ ?_); (first | rfl | (simp; done))) | with_reducible refine blk_drew ?_ | with_reducible refine blk_alloc ?_ _)) aro l.ron cro (roomList l.ro l.ron) (by rfl) HN.out (roomList_length _ _) (rooms_cells (HLL.out _ (by repeat (first | exact Below.refl _ _ | refine Below.drew ?_ | refine push ?_ _)))) (roomList_one _ _) (by unfold maxLen; omega) (by omega) ?_; intro p1 q1 u1 hg1 hr1 hat1; clear hat1; have HB1 : Hid (Below w5.heap.size w5 u1) := (by show Below _ _ _; refine after ?_ (grown_below hg1); exact (by repeat (first | exact Below.refl _ _ | refine Below.drew ?_ | refine push ?_ _))); refine hK.out _ _ (KS.out _ HB1.out) (fun hS => ?_)
      clear hK K
      simp only [Act.put, List.setIfInBounds_toArray, List.set_cons_zero, List.set_cons_succ]
      refine wpAnyZ_ready (rs := [14]) (by kernel_rfl) (by simp) ?_
      refine AllReadyZ.consL rfl (fun K hK => ?_) ?_
      · go_simp; refine hK.out _ _ (KS.out _ (by repeat (first | exact HB1.out | exact Below.refl _ _ | refine Below.drew ?_ | refine push ?_ _))) (fun hS => ?_)
        clear hK K
        simp only [List.set_cons_zero, List.set_cons_succ]
        refine wpAnyZ_ready (rs := [15]) (by kernel_rfl) (by simp) ?_
        refine AllReadyZ.consL rfl (fun K hK => ?_) ?_
        · refine step_append_lies _ (by rfl) (.tmp 232) (.tmp 240) 134 (by rfl) w5.heap.size 190 i0 (.agg #[.int .i64 0, .int .i64 0, .int .i64 0, .bool false]) 4 32 Tryz.underlying134 ii iz0 iz1 iz2 rfl (by decide) _ l.ron (roomList l.ro l.ron) (by rfl) (by first | exact hr1 | exact hr1.alloc _ | exact own_below (push (Below.refl _ _) _) hr1) _ 1 1 [.int .i64 who, .int .i64 (m : Int), .int .i64 (s.ca.B m), .bool true] (by rfl) (by rfl) (by refine World.news_of_block (cs := #[.int .i64 who, .int .i64 (m : Int), .int .i64 (s.ca.B m), .bool true]) (t := 190) (fr := (0, 0)) ?_; exact (by repeat (first | ((with_reducible refine new_at _ _ _ ?_); (first | rfl | (simp; done))) | with_reducible refine blk_drew ?_ | with_reducible refine blk_alloc ?_ _ | with_reducible refine blk_below ?_ (grown_below hg1)))) (by intro u hu; simp at hu; rcases hu with rfl | rfl | rfl | rfl <;> rfl) (by decide) (by unfold maxLen; omega) (by omega) (by first | exact HB1.out.size | (have := HB1.out.size; simp; omega)) _ rfl ?_; intro g2 cap2 u2 ho2 hg2 hat2 hlt2; refine (fun (HB2 : Hid (Below w5.heap.size w5 u2)) => ?_) (Below.grown ?_ hg2 ?_ (fun j hj => (hr1.lt j hj).1)); rotate_left; (focus (repeat (first | exact Below.refl _ _ | refine Below.drew ?_ | refine push ?_ _ | refine after ?_ (grown_below hg1)))); (focus (first | exact HB1.out.size | (have := HB1.out.size; simp; omega))); have q0 := (HB2.out.cell (p := ⟨gl, k * 3 + 1, none⟩) (blk_lt bGY)).trans LY0; have q1 := blk_free (blk_below bGY HB2.out) (k * 3 + 1); refine hK.out _ _ (KS.out _ HB2.out) (fun hS => ?_)
          clear hK K
          simp only [Act.put, List.setIfInBounds_toArray, List.set_cons_zero, List.set_cons_succ]
          (refine wpAnyZ_takeL (i := 16) (v := ?_) rfl (by kernel_rfl) (fun _ _ _ h => h) (Or.inl ⟨by rfl, ?_⟩) (by assumption) ?_; rotate_left; (focus (intro w' hSw; (try dsimp only at hSw); go_simp; try with_reducible rfl)); simp only [Act.put, List.setIfInBounds_toArray, List.set_cons_zero, List.set_cons_succ])
          (refine wpAnyZ_takeL (i := 17) (v := ?_) rfl (by kernel_rfl) (fun _ _ _ h => h) (Or.inl ⟨by rfl, ?_⟩) (by assumption) ?_; rotate_left; (focus (intro w' hSw; (try dsimp only at hSw); go_simp; try with_reducible rfl)); simp only [Act.put, List.setIfInBounds_toArray, List.set_cons_zero, List.set_cons_succ])
          refine wpAnyZ_ready (rs := [18]) (by kernel_rfl) (by simp) ?_
          refine AllReadyZ.lastL rfl (fun K hK => ?_)
          go_simp
          refine hK.out _ _ ?_
          clear hK K
          refine wpAnyZ_done (by kernel_rfl) ?_ _
          have HF : Hid _ := doRo (k := k) (n := l.ron + 1) (T := roomCat l.ro l.ron (fun _ => ⟨who, (m : Int), s.ca.B m, true⟩)) (v := ⟨leg, 1, false, who, ⟨pe, len, hei, cl, true, be⟩⟩) HO.out HQ.out HBG.out (after hbY HB2.out) (own_base (by rw [roomList_cat, roomList_succ, show roomList (fun _ => (⟨who, (m : Int), s.ca.B m, true⟩ : Room)) 0 = [] from rfl, List.nil_append]; exact ho2) hbY.size) (by rw [HLD.out, HSD.out]; exact .addWhole m rfl rfl rfl (by rw [← HSD.out, ← HLD.out]; exact HPI.out))
          go_wp2
          go_ret
          exact HF.out
        exact AllReadyZ.nil
      exact AllReadyZ.nil
    refine AllReadyZ.consL rfl (fun K hK => ?_) ?_
    · go_simp; refine hK.out _ _ (KS.out _ (by repeat (first | exact HB1.out | exact Below.refl _ _ | refine Below.drew ?_ | refine push ?_ _))) (fun hS => ?_)
      clear hK K
      simp only [List.set_cons_zero, List.set_cons_succ]
      refine wpAnyZ_ready (rs := [6]) (by kernel_rfl) (by simp) ?_
      refine AllReadyZ.consL rfl (fun K hK => ?_) ?_
      · refine step_append_own0 (by rfl) (.tmp 227) (.tmp 231) 134 (by rfl) 190 i0 (.agg #[.int .i64 0, .int .i64 0, .int .i64 0, .bool false]) 4 32 Tryz.underlying134 ii iz0 iz1 iz2 rfl (by decide) w5.heap.size _ (by rfl) (by first | exact Nat.le_refl _ | omega | (simp; done) | (simp; omega)) (by repeat (first | ((with_reducible refine new_at _ _ _ ?_); (first | rfl | (simp; done))) | with_reducible refine blk_drew ?_ | with_reducible refine blk_alloc ?_ _)) aro l.ron cro (roomList l.ro l.ron) (by rfl) HN.out (roomList_length _ _) (rooms_cells (HLL.out _ (by repeat (first | exact Below.refl _ _ | refine Below.drew ?_ | refine push ?_ _)))) (roomList_one _ _) (by unfold maxLen; omega) (by omega) ?_; intro p1 q1 u1 hg1 hr1 hat1; clear hat1; have HB1 : Hid (Below w5.heap.size w5 u1) := (by show Below _ _ _; refine after ?_ (grown_below hg1); exact (by repeat (first | exact Below.refl _ _ | refine Below.drew ?_ | refine push ?_ _))); refine hK.out _ _ (KS.out _ HB1.out) (fun hS => ?_)
        clear hK K
        simp only [Act.put, List.setIfInBounds_toArray, List.set_cons_zero, List.set_cons_succ]
        refine wpAnyZ_ready (rs := [15]) (by kernel_rfl) (by simp) ?_
        refine AllReadyZ.consL rfl (fun K hK => ?_) ?_
        · refine step_append_lies _ (by rfl) (.tmp 232) (.tmp 240) 134 (by rfl) w5.heap.size 190 i0 (.agg #[.int .i64 0, .int .i64 0, .int .i64 0, .bool false]) 4 32 Tryz.underlying134 ii iz0 iz1 iz2 rfl (by decide) _ l.ron (roomList l.ro l.ron) (by rfl) (by first | exact hr1 | exact hr1.alloc _ | exact own_below (push (Below.refl _ _) _) hr1) _ 1 1 [.int .i64 who, .int .i64 (m : Int), .int .i64 (s.ca.B m), .bool true] (by rfl) (by rfl) (by refine World.news_of_block (cs := #[.int .i64 who, .int .i64 (m : Int), .int .i64 (s.ca.B m), .bool true]) (t := 190) (fr := (0, 0)) ?_; exact (by repeat (first | ((with_reducible refine new_at _ _ _ ?_); (first | rfl | (simp; done))) | with_reducible refine blk_drew ?_ | with_reducible refine blk_alloc ?_ _ | with_reducible refine blk_below ?_ (grown_below hg1)))) (by intro u hu; simp at hu; rcases hu with rfl | rfl | rfl | rfl <;> rfl) (by decide) (by unfold maxLen; omega) (by omega) (by first | exact HB1.out.size | (have := HB1.out.size; simp; omega)) _ rfl ?_; intro g2 cap2 u2 ho2 hg2 hat2 hlt2; refine (fun (HB2 : Hid (Below w5.heap.size w5 u2)) => ?_) (Below.grown ?_ hg2 ?_ (fun j hj => (hr1.lt j hj).1)); rotate_left; (focus (repeat (first | exact Below.refl _ _ | refine Below.drew ?_ | refine push ?_ _ | refine after ?_ (grown_below hg1)))); (focus (first | exact HB1.out.size | (have := HB1.out.size; simp; omega))); have q0 := (HB2.out.cell (p := ⟨gl, k * 3 + 1, none⟩) (blk_lt bGY)).trans LY0; have q1 := blk_free (blk_below bGY HB2.out) (k * 3 + 1); refine hK.out _ _ (KS.out _ HB2.out) (fun hS => ?_)
          clear hK K
          simp only [Act.put, List.setIfInBounds_toArray, List.set_cons_zero, List.set_cons_succ]
          (refine wpAnyZ_takeL (i := 16) (v := ?_) rfl (by kernel_rfl) (fun _ _ _ h => h) (Or.inl ⟨by rfl, ?_⟩) (by assumption) ?_; rotate_left; (focus (intro w' hSw; (try dsimp only at hSw); go_simp; try with_reducible rfl)); simp only [Act.put, List.setIfInBounds_toArray, List.set_cons_zero, List.set_cons_succ])
          (refine wpAnyZ_takeL (i := 17) (v := ?_) rfl (by kernel_rfl) (fun _ _ _ h => h) (Or.inl ⟨by rfl, ?_⟩) (by assumption) ?_; rotate_left; (focus (intro w' hSw; (try dsimp only at hSw); go_simp; try with_reducible rfl)); simp only [Act.put, List.setIfInBounds_toArray, List.set_cons_zero, List.set_cons_succ])
          refine wpAnyZ_ready (rs := [18]) (by kernel_rfl) (by simp) ?_
          refine AllReadyZ.lastL rfl (fun K hK => ?_)
          go_simp
          refine hK.out _ _ ?_
          clear hK K
          refine wpAnyZ_done (by kernel_rfl) ?_ _
          have HF : Hid _ := doRo (k := k) (n := l.ron + 1) (T := roomCat l.ro l.ron (fun _ => ⟨who, (m : Int), s.ca.B m, true⟩)) (v := ⟨leg, 1, false, who, ⟨pe, len, hei, cl, true, be⟩⟩) HO.out HQ.out HBG.out (after hbY HB2.out) (own_base (by rw [roomList_cat, roomList_succ, show roomList (fun _ => (⟨who, (m : Int), s.ca.B m, true⟩ : Room)) 0 = [] from rfl, List.nil_append]; exact ho2) hbY.size) (by rw [HLD.out, HSD.out]; exact .addWhole m rfl rfl rfl (by rw [← HSD.out, ← HLD.out]; exact HPI.out))
          go_wp2
          go_ret
          exact HF.out
        exact AllReadyZ.nil
      exact AllReadyZ.nil
    exact AllReadyZ.nil
  refine AllReadyZ.consL rfl (fun K hK => ?_) ?_
  · go_simp; refine hK.out _ _ (KS.out _ (by repeat (first | exact HB1.out | exact Below.refl _ _ | refine Below.drew ?_ | refine push ?_ _))) (fun hS => ?_)
    clear hK K
    simp only [List.set_cons_zero, List.set_cons_succ]
    refine wpAnyZ_ready (rs := [1]) (by kernel_rfl) (by simp) ?_
    refine AllReadyZ.consL rfl (fun K hK => ?_) ?_
    · go_simp; refine hK.out _ _ (KS.out _ (by repeat (first | exact HB1.out | exact Below.refl _ _ | refine Below.drew ?_ | refine push ?_ _))) (fun hS => ?_)
      clear hK K
      simp only [List.set_cons_zero, List.set_cons_succ]
      refine wpAnyZ_ready (rs := [6]) (by kernel_rfl) (by simp) ?_
      refine AllReadyZ.consL rfl (fun K hK => ?_) ?_
      · refine step_append_own0 (by rfl) (.tmp 227) (.tmp 231) 134 (by rfl) 190 i0 (.agg #[.int .i64 0, .int .i64 0, .int .i64 0, .bool false]) 4 32 Tryz.underlying134 ii iz0 iz1 iz2 rfl (by decide) w5.heap.size _ (by rfl) (by first | exact Nat.le_refl _ | omega | (simp; done) | (simp; omega)) (by repeat (first | ((with_reducible refine new_at _ _ _ ?_); (first | rfl | (simp; done))) | with_reducible refine blk_drew ?_ | with_reducible refine blk_alloc ?_ _)) aro l.ron cro (roomList l.ro l.ron) (by rfl) HN.out (roomList_length _ _) (rooms_cells (HLL.out _ (by repeat (first | exact Below.refl _ _ | refine Below.drew ?_ | refine push ?_ _)))) (roomList_one _ _) (by unfold maxLen; omega) (by omega) ?_; intro p1 q1 u1 hg1 hr1 hat1; clear hat1; have HB1 : Hid (Below w5.heap.size w5 u1) := (by show Below _ _ _; refine after ?_ (grown_below hg1); exact (by repeat (first | exact Below.refl _ _ | refine Below.drew ?_ | refine push ?_ _))); refine hK.out _ _ (KS.out _ HB1.out) (fun hS => ?_)
        clear hK K
        simp only [Act.put, List.setIfInBounds_toArray, List.set_cons_zero, List.set_cons_succ]
        refine wpAnyZ_ready (rs := [15]) (by kernel_rfl) (by simp) ?_
        refine AllReadyZ.consL rfl (fun K hK => ?_) ?_
        · refine step_append_lies _ (by rfl) (.tmp 232) (.tmp 240) 134 (by rfl) w5.heap.size 190 i0 (.agg #[.int .i64 0, .int .i64 0, .int .i64 0, .bool false]) 4 32 Tryz.underlying134 ii iz0 iz1 iz2 rfl (by decide) _ l.ron (roomList l.ro l.ron) (by rfl) (by first | exact hr1 | exact hr1.alloc _ | exact own_below (push (Below.refl _ _) _) hr1) _ 1 1 [.int .i64 who, .int .i64 (m : Int), .int .i64 (s.ca.B m), .bool true] (by rfl) (by rfl) (by refine World.news_of_block (cs := #[.int .i64 who, .int .i64 (m : Int), .int .i64 (s.ca.B m), .bool true]) (t := 190) (fr := (0, 0)) ?_; exact (by repeat (first | ((with_reducible refine new_at _ _ _ ?_); (first | rfl | (simp; done))) | with_reducible refine blk_drew ?_ | with_reducible refine blk_alloc ?_ _ | with_reducible refine blk_below ?_ (grown_below hg1)))) (by intro u hu; simp at hu; rcases hu with rfl | rfl | rfl | rfl <;> rfl) (by decide) (by unfold maxLen; omega) (by omega) (by first | exact HB1.out.size | (have := HB1.out.size; simp; omega)) _ rfl ?_; intro g2 cap2 u2 ho2 hg2 hat2 hlt2; refine (fun (HB2 : Hid (Below w5.heap.size w5 u2)) => ?_) (Below.grown ?_ hg2 ?_ (fun j hj => (hr1.lt j hj).1)); rotate_left; (focus (repeat (first | exact Below.refl _ _ | refine Below.drew ?_ | refine push ?_ _ | refine after ?_ (grown_below hg1)))); (focus (first | exact HB1.out.size | (have := HB1.out.size; simp; omega))); have q0 := (HB2.out.cell (p := ⟨gl, k * 3 + 1, none⟩) (blk_lt bGY)).trans LY0; have q1 := blk_free (blk_below bGY HB2.out) (k * 3 + 1); refine hK.out _ _ (KS.out _ HB2.out) (fun hS => ?_)
          clear hK K
          simp only [Act.put, List.setIfInBounds_toArray, List.set_cons_zero, List.set_cons_succ]
          (refine wpAnyZ_takeL (i := 16) (v := ?_) rfl (by kernel_rfl) (fun _ _ _ h => h) (Or.inl ⟨by rfl, ?_⟩) (by assumption) ?_; rotate_left; (focus (intro w' hSw; (try dsimp only at hSw); go_simp; try with_reducible rfl)); simp only [Act.put, List.setIfInBounds_toArray, List.set_cons_zero, List.set_cons_succ])
          (refine wpAnyZ_takeL (i := 17) (v := ?_) rfl (by kernel_rfl) (fun _ _ _ h => h) (Or.inl ⟨by rfl, ?_⟩) (by assumption) ?_; rotate_left; (focus (intro w' hSw; (try dsimp only at hSw); go_simp; try with_reducible rfl)); simp only [Act.put, List.setIfInBounds_toArray, List.set_cons_zero, List.set_cons_succ])
          refine wpAnyZ_ready (rs := [18]) (by kernel_rfl) (by simp) ?_
          refine AllReadyZ.lastL rfl (fun K hK => ?_)
          go_simp
          refine hK.out _ _ ?_
          clear hK K
          refine wpAnyZ_done (by kernel_rfl) ?_ _
          have HF : Hid _ := doRo (k := k) (n := l.ron + 1) (T := roomCat l.ro l.ron (fun _ => ⟨who, (m : Int), s.ca.B m, true⟩)) (v := ⟨leg, 1, false, who, ⟨pe, len, hei, cl, true, be⟩⟩) HO.out HQ.out HBG.out (after hbY HB2.out) (own_base (by rw [roomList_cat, roomList_succ, show roomList (fun _ => (⟨who, (m : Int), s.ca.B m, true⟩ : Room)) 0 = [] from rfl, List.nil_append]; exact ho2) hbY.size) (by rw [HLD.out, HSD.out]; exact .addWhole m rfl rfl rfl (by rw [← HSD.out, ← HLD.out]; exact HPI.out))
          go_wp2
          go_ret
          exact HF.out
        exact AllReadyZ.nil
      exact AllReadyZ.nil
    exact AllReadyZ.nil
  exact AllReadyZ.nil

end Go.Proofs.YtfallpinmhbemaaGreatDoor

namespace Go.Proofs.YtfallpinmhbemaaGreatDoor
open Go.RowKit

set_option maxHeartbeats 25600000 in
set_option maxRecDepth 100000 in
theorem l7Do_f (g base N R k csa cld cbk : Nat) (asa ald abk : Option Addr) (leg who : Int) (pe len hei cl be : Int) (x : Off) (L C A B D E : Nat → Value) (w : World) (hq : w.heap[g]? = some (.cells #[.slice asa N csa, .slice ald N cld, .slice abk R cbk] 66 (0, 0))) (ho : OwnOff w base (.slice asa N csa) (.slice ald N cld) (.slice abk R cbk) N N R x L C A B D E) (hN : N ≤ 1048576) (hk : findIx x.sa leg N = k) (hlt : k < N) (hok : LoadOk (x.sa k) (x.ld k)) :
    Calls Tryz.prog 122 #[.pointer (some ⟨g, 0, none⟩), .agg #[.int .i64 leg, .int .i64 1, .bool false, .int .i64 who, .int .i64 pe, .int .i64 len, .int .i64 hei, .int .i64 cl, .bool false, .int .i64 be]] w fun e w' => DoAns g base N R k csa cld cbk asa ald abk ⟨leg, 1, false, who, ⟨pe, len, hei, cl, false, be⟩⟩ x L C E w e w' := by
  obtain ⟨i0, ii, iz0, iz1, iz2⟩ := info_parts Tryz.infoRoom
  obtain ⟨gl, rfl, hbg, hlg⟩ := own_addr ho.ld.row (by omega)
  have HO : Hid (OwnOff w base (.slice asa N csa) (.slice (some ⟨gl, 0, none⟩) N cld) (.slice abk R cbk) N N R x L C A B D E) := ho
  have HK : Hid (findIx x.sa leg N = k) := hk
  have HOK : Hid (LoadOk (x.sa k) (x.ld k)) := hok
  have HBG : Hid (base ≤ w.heap.size) := by show base ≤ w.heap.size; omega
  have HQ : Hid (w.heap[g]? = some (.cells #[.slice asa N csa, .slice (some ⟨gl, 0, none⟩) N cld, .slice abk R cbk] 66 (0, 0))) := hq
  have HSAt : Hid (SailsAt w asa N x.sa) := ho.sa.at
  obtain ⟨cs, hgl⟩ := own_blockE ho.ld.row gl rfl
  obtain ⟨ast, cst, eA, m1, m2, m3⟩ := own_form (ho.ld.st k hlt)
  obtain ⟨aro, cro, eB, m4, m5, m6⟩ := own_form (ho.ld.ro k hlt)
  obtain ⟨ase, cse, eD, m7, m8, m9⟩ := own_form (ho.ld.se k hlt)
  have HST : Hid (w.ownsRow base 186 4 (.slice ast (x.ld k).stn cst) (x.ld k).stn (stayList (x.ld k).st (x.ld k).stn)) := by show w.ownsRow _ _ _ _ _ _; rw [← eA]; exact ho.ld.st k hlt
  have HRO : Hid (w.ownsRow base 190 4 (.slice aro (x.ld k).ron cro) (x.ld k).ron (roomList (x.ld k).ro (x.ld k).ron)) := by show w.ownsRow _ _ _ _ _ _; rw [← eB]; exact ho.ld.ro k hlt
  have HSE : Hid (w.ownsRow base 138 2 (.slice ase (x.ld k).sen cse) (x.ld k).sen (seatList (x.ld k).se (x.ld k).sen)) := by show w.ownsRow _ _ _ _ _ _; rw [← eD]; exact ho.ld.se k hlt
  have HL0 : Hid (w.cell? ⟨gl, k * 3, none⟩ = some (.slice ast (x.ld k).stn cst)) := by
    have h := own_cell ho.ld.row (k * 3 + 0) (by omega) rfl
    rw [recCell_at 3 _ k 0 (by decide)] at h
    rw [← eA]
    exact h
  have HL1 : Hid (w.cell? ⟨gl, k * 3 + 1, none⟩ = some (.slice aro (x.ld k).ron cro)) := by
    have h := own_cell ho.ld.row (k * 3 + 1) (by omega) rfl
    rw [recCell_at 3 _ k 1 (by decide)] at h
    rw [← eB]
    exact h
  have HL2 : Hid (w.cell? ⟨gl, k * 3 + 2, none⟩ = some (.slice ase (x.ld k).sen cse)) := by
    have h := own_cell ho.ld.row (k * 3 + 2) (by omega) rfl
    rw [recCell_at 3 _ k 2 (by decide)] at h
    rw [← eD]
    exact h
  have HNI : Hid ((ast = none → (x.ld k).stn = 0 ∧ cst = 0) ∧ (aro = none → (x.ld k).ron = 0 ∧ cro = 0) ∧ (ase = none → (x.ld k).sen = 0 ∧ cse = 0)) := ⟨m3, m6, m9⟩
  obtain ⟨s, hsd⟩ : ∃ s, s = x.sa k := ⟨_, rfl⟩
  obtain ⟨l, hld⟩ : ∃ l, l = x.ld k := ⟨_, rfl⟩
  rw [← hld] at HST HRO HSE HL0 HL1 HL2 HNI HOK
  rw [← hsd] at HOK
  have HSD : Hid (s = x.sa k) := hsd
  have HLD : Hid (l = x.ld k) := hld
  have HGL : Hid (w.heap[gl]? = some (.cells cs 136 (0, 0))) := hgl
  obtain ⟨sb0, so, la, lc, ca, cc, rfl, f0, f1, f2, f3, f4, f5, f6, f7, hla, hca, sla, sca⟩ := HSAt.out k hlt
  rw [← hsd] at f0 f1 f2 f3 f4 f5 f6 f7 hla hca sla sca
  have HPL : Hid (PairsAt w la s.la ∧ PairsAt w ca s.ca) := ⟨hla, hca⟩
  have HCS : Hid (∀ W, Below w.heap.size w W → W.cell? ⟨sb0, so + k * 8, none⟩ = some (.int .i64 s.id) ∧ W.cell? ⟨sb0, so + k * 8 + 1, none⟩ = some (.string s.fr) ∧ W.cell? ⟨sb0, so + k * 8 + 2, none⟩ = some (.string s.dst) ∧ W.cell? ⟨sb0, so + k * 8 + 3, none⟩ = some (.int .i64 s.dep) ∧ W.cell? ⟨sb0, so + k * 8 + 4, none⟩ = some (.int .i64 s.arr) ∧ W.cell? ⟨sb0, so + k * 8 + 5, none⟩ = some (.slice la s.la.n lc) ∧ W.cell? ⟨sb0, so + k * 8 + 6, none⟩ = some (.slice ca s.ca.n cc) ∧ W.cell? ⟨sb0, so + k * 8 + 7, none⟩ = some (.int .i64 s.most)) := fun W hb => by
    have lsb := World.block_lt_of_cell? w _ f0
    exact ⟨(hb.cell (p := ⟨sb0, so + k * 8, none⟩) lsb).trans f0, (hb.cell (p := ⟨sb0, so + k * 8 + 1, none⟩) lsb).trans f1, (hb.cell (p := ⟨sb0, so + k * 8 + 2, none⟩) lsb).trans f2, (hb.cell (p := ⟨sb0, so + k * 8 + 3, none⟩) lsb).trans f3, (hb.cell (p := ⟨sb0, so + k * 8 + 4, none⟩) lsb).trans f4, (hb.cell (p := ⟨sb0, so + k * 8 + 5, none⟩) lsb).trans f5, (hb.cell (p := ⟨sb0, so + k * 8 + 6, none⟩) lsb).trans f6, (hb.cell (p := ⟨sb0, so + k * 8 + 7, none⟩) lsb).trans f7⟩
  clear f0 f1 f2 f3 f4 f5 f6 f7 hla hca sla sca hsd hld hgl eA eB eD m1 m2 m3 m4 m5 m6 m7 m8 m9 hok hk hbg
  have i1 : (0 : Int) ≤ (k : Int) := by omega
  have i2 : (k : Int) < (N : Int) := by omega
  have hb0 : Below w.heap.size w (w.alloc (.cells #[.int .i64 leg, .int .i64 1, .bool false, .int .i64 who, .int .i64 pe, .int .i64 len, .int .i64 hei, .int .i64 cl, .bool false, .int .i64 be] 175)) := push (Below.refl _ _) _
  have b0 := heap_alloc_new w (.cells #[.int .i64 leg, .int .i64 1, .bool false, .int .i64 who, .int .i64 pe, .int .i64 len, .int .i64 hei, .int .i64 cl, .bool false, .int .i64 be] 175)
  go_enter Tryz.func122, Tryz.ntmps122
  go_upto_region 1 with fail
  generalize (w.alloc (.cells #[.int .i64 leg, .int .i64 1, .bool false, .int .i64 who, .int .i64 pe, .int .i64 len, .int .i64 hei, .int .i64 cl, .bool false, .int .i64 be] 175)) = W at hb0 b0 ⊢
  have z0 : ∀ G : Grown W, G.val.cell? ⟨g, 0, none⟩ = some (.slice (some ⟨sb0, so, none⟩) N csa) := fun G => blk_cell (blk_below HQ.out (after hb0 G.bel)) 0 _ rfl
  have z1 : ∀ G : Grown W, G.val.cell? ⟨w.heap.size, 0, none⟩ = some (.int .i64 leg) := fun G => blk_cell (blk_below b0 G.bel) 0 _ rfl
  refine wp_region_grow (by kernel_rfl) (by kernel_rfl) ?_
  repeat (first | go_big_quiet_skip | (go_big_quiet_want; go_big_quiet_op; first | go_big_quiet_on | (apply Exists.intro; refine ⟨fun G => ?_, ?_⟩; (focus (first | (go_at_call 110; refine grown_call (v := .int .i64 (k : Int)) ((l3At_any _ N csa x.sa leg _ hN (HSAt.out.below (after hb0 G.bel))).mono ?_); rintro e w2 ⟨he, hb2⟩; refine ⟨?_, hb2⟩; rw [HK.out] at he; rcases he with ⟨_, rfl⟩ | ⟨h, _⟩; rfl; omega))); go_big_quiet_on)))
  refine wpQuiet_nil ?_
  rintro _ ⟨G, rfl⟩
  clear z0 z1
  have hbG := after hb0 G.bel
  have bW := blk_below b0 G.bel
  obtain ⟨c0, c1, c2, c3, c4, c5, c6, c7⟩ := HCS.out G.val hbG
  have y0 := blk_cell (blk_below HQ.out hbG) 0 _ rfl
  have y1 : ∀ o, (G.val.alloc o).cell? ⟨g, 1, none⟩ = some (.slice (some ⟨gl, 0, none⟩) N cld) := fun o => blk_cell (blk_below HQ.out (push hbG o)) 1 _ rfl
  have y4 : ∀ o, (G.val.alloc o).cell? ⟨w.heap.size, 4, none⟩ = some (.int .i64 pe) := fun o => blk_cell (blk_alloc bW o) 4 _ rfl
  have y5 : ∀ o, (G.val.alloc o).cell? ⟨w.heap.size, 5, none⟩ = some (.int .i64 len) := fun o => blk_cell (blk_alloc bW o) 5 _ rfl
  have y6 : ∀ o, (G.val.alloc o).cell? ⟨w.heap.size, 6, none⟩ = some (.int .i64 hei) := fun o => blk_cell (blk_alloc bW o) 6 _ rfl
  have y7 : ∀ o, (G.val.alloc o).cell? ⟨w.heap.size, 7, none⟩ = some (.int .i64 cl) := fun o => blk_cell (blk_alloc bW o) 7 _ rfl
  have y8 : ∀ o, (G.val.alloc o).cell? ⟨w.heap.size, 8, none⟩ = some (.bool false) := fun o => blk_cell (blk_alloc bW o) 8 _ rfl
  have y9 : ∀ o, (G.val.alloc o).cell? ⟨w.heap.size, 9, none⟩ = some (.int .i64 be) := fun o => blk_cell (blk_alloc bW o) 9 _ rfl
  go_upto_region 8 with fail
  have hbX : Below w.heap.size w ((G.val.alloc (.cells #[.int .i64 s.id, .string s.fr, .string s.dst, .int .i64 s.dep, .int .i64 s.arr, .slice la s.la.n lc, .slice ca s.ca.n cc, .int .i64 s.most] 37)).alloc (.cells #[.int .i64 pe, .int .i64 len, .int .i64 hei, .int .i64 cl, .bool false, .int .i64 be] 25)) := push (push hbG _) _
  have bWX := blk_alloc (blk_alloc bW (.cells #[.int .i64 s.id, .string s.fr, .string s.dst, .int .i64 s.dep, .int .i64 s.arr, .slice la s.la.n lc, .slice ca s.ca.n cc, .int .i64 s.most] 37)) (.cells #[.int .i64 pe, .int .i64 len, .int .i64 hei, .int .i64 cl, .bool false, .int .i64 be] 25)
  have bSX := blk_alloc (heap_alloc_new G.val (.cells #[.int .i64 s.id, .string s.fr, .string s.dst, .int .i64 s.dep, .int .i64 s.arr, .slice la s.la.n lc, .slice ca s.ca.n cc, .int .i64 s.most] 37)) (.cells #[.int .i64 pe, .int .i64 len, .int .i64 hei, .int .i64 cl, .bool false, .int .i64 be] 25)
  have bPX := new2 G.val (.cells #[.int .i64 s.id, .string s.fr, .string s.dst, .int .i64 s.dep, .int .i64 s.arr, .slice la s.la.n lc, .slice ca s.ca.n cc, .int .i64 s.most] 37) (.cells #[.int .i64 pe, .int .i64 len, .int .i64 hei, .int .i64 cl, .bool false, .int .i64 be] 25)
  generalize hx0 : (G.val.alloc (.cells #[.int .i64 s.id, .string s.fr, .string s.dst, .int .i64 s.dep, .int .i64 s.arr, .slice la s.la.n lc, .slice ca s.ca.n cc, .int .i64 s.most] 37)).alloc (.cells #[.int .i64 pe, .int .i64 len, .int .i64 hei, .int .i64 cl, .bool false, .int .i64 be] 25) = X at hbX bWX bSX bPX ⊢
  generalize hsb : G.val.heap.size = sb at bSX bPX ⊢
  clear c0 c1 c2 c3 c4 c5 c6 c7 y0 y1 y4 y5 y6 y7 y8 y9 bW hbG hb0 b0 hx0 hsb G W
  have w1 := blk_cell bWX 1 _ rfl
  have w2 := blk_cell bWX 2 _ rfl
  have w3 := blk_cell bWX 3 _ rfl
  have L0 : X.cell? ⟨gl, k * 3, none⟩ = some (.slice ast l.stn cst) := (hbX.cell (p := ⟨gl, k * 3, none⟩) hlg).trans HL0.out
  have L1 : X.cell? ⟨gl, k * 3 + 1, none⟩ = some (.slice aro l.ron cro) := (hbX.cell (p := ⟨gl, k * 3 + 1, none⟩) hlg).trans HL1.out
  have L2 : X.cell? ⟨gl, k * 3 + 2, none⟩ = some (.slice ase l.sen cse) := (hbX.cell (p := ⟨gl, k * 3 + 2, none⟩) hlg).trans HL2.out
  have bG := blk_below HGL.out hbX
  obtain ⟨rb, hrb⟩ := rIx_some l.ron s.ca.n (BerthP s.ca l.ron l.ro cl be)
  have HPB : Hid (RIx l.ron s.ca.n (BerthP s.ca l.ron l.ro cl be) rb) := hrb
  clear hrb
  have s5 : ∀ G : Grown X, G.val.cell? ⟨sb, 6, none⟩ = some (.slice ca s.ca.n cc) := fun G => blk_cell (blk_below bSX G.bel) 6 _ rfl
  have s6 : ∀ G : Grown X, G.val.cell? ⟨gl, k * 3 + 1, none⟩ = some (.slice aro l.ron cro) := fun G => (G.bel.cell (p := ⟨gl, k * 3 + 1, none⟩) (blk_lt bG)).trans L1
  have p1 : ∀ G : Grown X, G.val.cell? ⟨sb + 1, 3, none⟩ = some (.int .i64 cl) := fun G => blk_cell (blk_below bPX G.bel) 3 _ rfl
  have p2 : ∀ G : Grown X, G.val.cell? ⟨sb + 1, 5, none⟩ = some (.int .i64 be) := fun G => blk_cell (blk_below bPX G.bel) 5 _ rfl
  go_upto_region 34 with fail
  refine wp_region_grow (by kernel_rfl) (by kernel_rfl) ?_
  repeat (first | go_big_quiet_skip | (go_big_quiet_want; go_big_quiet_op; first | go_big_quiet_on | (apply Exists.intro; refine ⟨fun G => ?_, ?_⟩; (focus (first | (go_at_call 141; refine grown_call (v := .int .i64 rb) ((l5Berths_any ca aro s.ca.n cc l.ron cro s.ca l.ro cl be _ rfl HOK.out.2.1 (HPL.out.2.below (after hbX G.bel)) ((rooms_of_own HRO.out).below (after hbX G.bel))).mono ?_); rintro e w2 ⟨⟨r', rfl, o1⟩, hb2⟩; exact ⟨by rw [rIx_one o1 HPB.out], hb2⟩))); go_big_quiet_on)))
  refine wpQuiet_nil ?_
  rintro _ ⟨G, rfl⟩
  have hbY := after hbX G.bel
  have bWY := blk_below bWX G.bel
  have bSY := blk_below bSX G.bel
  have bPY := blk_below bPX G.bel
  have bGY := blk_below bG G.bel
  clear w1 w2 w3 L0 L1 L2 s5 s6 p1 p2
  generalize G.val = W5 at hbY bWY bSY bPY bGY ⊢
  clear hbX bWX bSX bPX bG G X
  have r4 := blk_cell bPY 4 _ rfl
  have r5 := blk_cell bPY 5 _ rfl
  obtain ⟨r, hr0⟩ : ∃ r, r = rb := ⟨_, rfl⟩
  rw [← hr0] at HPB ⊢
  have HPI : Hid (RIx l.ron s.ca.n (BerthP s.ca l.ron l.ro cl be) r) := HPB
  clear HPB hr0 rb
  obtain ⟨w5, hw5⟩ : ∃ w5, w5 = W5 := ⟨_, rfl⟩
  rw [← hw5] at hbY bWY bSY bPY bGY r4 r5 ⊢
  clear hw5 W5
  by_cases hr : r < 0
  · have e1 : decide (r < 0) = true := decide_eq_true hr
    have HF : Hid _ := doNo (k := k) (code := 6) (v := ⟨leg, 1, false, who, ⟨pe, len, hei, cl, false, be⟩⟩) HO.out HQ.out hbY (by
      refine .berth rfl rfl rfl ?_
      rw [← HSD.out, ← HLD.out]
      rcases HPI.out with ⟨j, h, _⟩ | ⟨h, h2⟩
      · omega
      · exact .inr ⟨rfl, h2⟩)
    go_wp2
    go_ret
    exact HF.out
  obtain ⟨m, rfl⟩ : ∃ m : Nat, r = (m : Int) := ⟨r.toNat, by omega⟩
  have e1 : decide ((m : Int) < 0) = false := decide_eq_false hr
  clear hr
  go_upto_region 42 with fail
  have HN : Hid (aro = none → l.ron = 0 ∧ cro = 0) := HNI.out.2.1
  have HLL : Hid (∀ z, Below w5.heap.size w5 z → RoomsAt z aro l.ron l.ro) := fun z h => (rooms_of_own HRO.out).below (after hbY h)
  have hn60 : l.ron ≤ 60 := HOK.out.2.1.2.1
  have LY0 : w5.cell? ⟨gl, k * 3 + 1, none⟩ = some (.slice aro l.ron cro) := (hbY.cell (p := ⟨gl, k * 3 + 1, none⟩) hlg).trans HL1.out
  have KS : Hid (∀ z, Below w5.heap.size w5 z → (z.cell? ⟨w.heap.size, 3, none⟩ = some (.int .i64 who) ∧ z.cell? ⟨sb + 1, 4, none⟩ = some (.bool false)) ∧ z.cell? ⟨gl, k * 3 + 1, none⟩ = some (.slice aro l.ron cro)) := fun z h => ⟨⟨blk_cell (blk_below bWY h) 3 _ rfl, blk_cell (blk_below bPY h) 4 _ rfl⟩, (h.cell (p := ⟨gl, k * 3 + 1, none⟩) (blk_lt bGY)).trans LY0⟩
  refine wp_region_z 18 19 (fun w' => (w'.cell? ⟨w.heap.size, 3, none⟩ = some (.int .i64 who) ∧ w'.cell? ⟨sb + 1, 4, none⟩ = some (.bool false)) ∧ w'.cell? ⟨gl, k * 3 + 1, none⟩ = some (.slice aro l.ron cro)) rfl (by kernel_rfl) (KS.out _ (Below.drew (Below.refl _ _))) (fun hS => ?_)
  simp only [List.replicate_succ, List.replicate_zero]
  (refine wpAnyZ_takeL (i := 0) (v := ?_) rfl (by kernel_rfl) (fun _ _ _ h => h) (Or.inl ⟨by rfl, ?_⟩) (by assumption) ?_; rotate_left; (focus (intro w' hSw; (try dsimp only at hSw); go_simp; try with_reducible rfl)); simp only [Act.put, List.setIfInBounds_toArray, List.set_cons_zero, List.set_cons_succ])
  (refine wpAnyZ_takeL (i := 2) (v := ?_) rfl (by kernel_rfl) (fun _ _ _ h => h) (Or.inl ⟨by rfl, ?_⟩) (by assumption) ?_; rotate_left; (focus (intro w' hSw; (try dsimp only at hSw); go_simp; try with_reducible rfl)); simp only [Act.put, List.setIfInBounds_toArray, List.set_cons_zero, List.set_cons_succ])
  (refine wpAnyZ_takeL (i := 3) (v := ?_) rfl (by kernel_rfl) (fun _ _ _ h => h) (Or.inl ⟨by rfl, ?_⟩) (by assumption) ?_; rotate_left; (focus (intro w' hSw; (try dsimp only at hSw); go_simp; try with_reducible rfl)); simp only [Act.put, List.setIfInBounds_toArray, List.set_cons_zero, List.set_cons_succ])
  (refine wpAnyZ_takeL (i := 4) (v := ?_) rfl (by kernel_rfl) (fun _ _ _ h => h) (Or.inl ⟨by rfl, ?_⟩) (by assumption) ?_; rotate_left; (focus (intro w' hSw; (try dsimp only at hSw); go_simp; try with_reducible rfl)); simp only [Act.put, List.setIfInBounds_toArray, List.set_cons_zero, List.set_cons_succ])
  (refine wpAnyZ_takeL (i := 5) (v := ?_) rfl (by kernel_rfl) (fun _ _ _ h => h) (Or.inl ⟨by rfl, ?_⟩) (by assumption) ?_; rotate_left; (focus (intro w' hSw; (try dsimp only at hSw); go_simp; try with_reducible rfl)); simp only [Act.put, List.setIfInBounds_toArray, List.set_cons_zero, List.set_cons_succ])
  (refine wpAnyZ_takeL (i := 7) (v := ?_) rfl (by kernel_rfl) (fun _ _ _ h => h) (Or.inl ⟨by rfl, ?_⟩) (by assumption) ?_; rotate_left; (focus (intro w' hSw; (try dsimp only at hSw); go_simp; try with_reducible rfl)); simp only [Act.put, List.setIfInBounds_toArray, List.set_cons_zero, List.set_cons_succ])
  (refine wpAnyZ_takeL (i := 8) (v := ?_) rfl (by kernel_rfl) (fun _ _ _ h => h) (Or.inl ⟨by rfl, ?_⟩) (by assumption) ?_; rotate_left; (focus (intro w' hSw; (try dsimp only at hSw); go_simp; try with_reducible rfl)); simp only [Act.put, List.setIfInBounds_toArray, List.set_cons_zero, List.set_cons_succ])
  (refine wpAnyZ_takeL (i := 9) (v := ?_) rfl (by kernel_rfl) (fun _ _ _ h => h) (Or.inl ⟨by rfl, ?_⟩) (by assumption) ?_; rotate_left; (focus (intro w' hSw; (try dsimp only at hSw); go_simp; try with_reducible rfl)); simp only [Act.put, List.setIfInBounds_toArray, List.set_cons_zero, List.set_cons_succ])
  (refine wpAnyZ_takeL (i := 10) (v := ?_) rfl (by kernel_rfl) (fun _ _ _ h => h) (Or.inl ⟨by rfl, ?_⟩) (by assumption) ?_; rotate_left; (focus (intro w' hSw; (try dsimp only at hSw); go_simp; try with_reducible rfl)); simp only [Act.put, List.setIfInBounds_toArray, List.set_cons_zero, List.set_cons_succ])
  (refine wpAnyZ_takeL (i := 11) (v := ?_) rfl (by kernel_rfl) (fun _ _ _ h => h) (Or.inl ⟨by rfl, ?_⟩) (by assumption) ?_; rotate_left; (focus (intro w' hSw; (try dsimp only at hSw); go_simp; try with_reducible rfl)); simp only [Act.put, List.setIfInBounds_toArray, List.set_cons_zero, List.set_cons_succ])
  (refine wpAnyZ_takeL (i := 12) (v := ?_) rfl (by kernel_rfl) (fun _ _ _ h => h) (Or.inl ⟨by rfl, ?_⟩) (by assumption) ?_; rotate_left; (focus (intro w' hSw; (try dsimp only at hSw); go_simp; try with_reducible rfl)); simp only [Act.put, List.setIfInBounds_toArray, List.set_cons_zero, List.set_cons_succ])
  (refine wpAnyZ_takeL (i := 13) (v := ?_) rfl (by kernel_rfl) (fun _ _ _ h => h) (Or.inl ⟨by rfl, ?_⟩) (by assumption) ?_; rotate_left; (focus (intro w' hSw; (try dsimp only at hSw); go_simp; try with_reducible rfl)); simp only [Act.put, List.setIfInBounds_toArray, List.set_cons_zero, List.set_cons_succ])
  refine wpAnyZ_ready (rs := [1, 14]) (by kernel_rfl) (by simp) ?_
  refine AllReadyZ.consL rfl (fun K hK => ?_) ?_
  · go_simp; refine hK.out _ _ (KS.out _ (by repeat (first | exact HB1.out | exact Below.refl _ _ | refine Below.drew ?_ | refine push ?_ _))) (fun hS => ?_)
    clear hK K
    simp only [List.set_cons_zero, List.set_cons_succ]
    refine wpAnyZ_ready (rs := [6, 14]) (by kernel_rfl) (by simp) ?_
    refine AllReadyZ.consL rfl (fun K hK => ?_) ?_
    · refine step_append_own0 (by rfl) (.tmp 227) (.tmp 231) 134 (by rfl) 190 i0 (.agg #[.int .i64 0, .int .i64 0, .int .i64 0, .bool false]) 4 32 Tryz.underlying134 ii iz0 iz1 iz2 rfl (by decide) w5.heap.size _ (by rfl) (by first | exact Nat.le_refl _ | omega | (simp; done) | (simp; omega)) (by repeat (first | ((with_reducible refine new_at _ _ _ ?_); (first | rfl | (simp; done))) | with_reducible refine blk_drew ?_ | with_reducible refine blk_alloc ?_ _)) aro l.ron cro (roomList l.ro l.ron) (by rfl) HN.out (roomList_length _ _) (rooms_cells (HLL.out _ (by repeat (first | exact Below.refl _ _ | refine Below.drew ?_ | refine push ?_ _)))) (roomList_one _ _) (by unfold maxLen; omega) (by omega) ?_; intro p1 q1 u1 hg1 hr1 hat1; clear hat1; have HB1 : Hid (Below w5.heap.size w5 u1) := (by show Below _ _ _; refine after ?_ (grown_below hg1); exact (by repeat (first | exact Below.refl _ _ | refine Below.drew ?_ | refine push ?_ _))); refine hK.out _ _ (KS.out _ HB1.out) (fun hS => ?_)
      clear hK K
      simp only [Act.put, List.setIfInBounds_toArray, List.set_cons_zero, List.set_cons_succ]
      refine wpAnyZ_ready (rs := [14]) (by kernel_rfl) (by simp) ?_
      refine AllReadyZ.consL rfl (fun K hK => ?_) ?_
      · go_simp; refine hK.out _ _ (KS.out _ (by repeat (first | exact HB1.out | exact Below.refl _ _ | refine Below.drew ?_ | refine push ?_ _))) (fun hS => ?_)
        clear hK K
        simp only [List.set_cons_zero, List.set_cons_succ]
        refine wpAnyZ_ready (rs := [15]) (by kernel_rfl) (by simp) ?_
        refine AllReadyZ.consL rfl (fun K hK => ?_) ?_
        · refine step_append_lies _ (by rfl) (.tmp 232) (.tmp 240) 134 (by rfl) w5.heap.size 190 i0 (.agg #[.int .i64 0, .int .i64 0, .int .i64 0, .bool false]) 4 32 Tryz.underlying134 ii iz0 iz1 iz2 rfl (by decide) _ l.ron (roomList l.ro l.ron) (by rfl) (by first | exact hr1 | exact hr1.alloc _ | exact own_below (push (Below.refl _ _) _) hr1) _ 1 1 [.int .i64 who, .int .i64 (m : Int), .int .i64 (be), .bool false] (by rfl) (by rfl) (by refine World.news_of_block (cs := #[.int .i64 who, .int .i64 (m : Int), .int .i64 (be), .bool false]) (t := 190) (fr := (0, 0)) ?_; exact (by repeat (first | ((with_reducible refine new_at _ _ _ ?_); (first | rfl | (simp; done))) | with_reducible refine blk_drew ?_ | with_reducible refine blk_alloc ?_ _ | with_reducible refine blk_below ?_ (grown_below hg1)))) (by intro u hu; simp at hu; rcases hu with rfl | rfl | rfl | rfl <;> rfl) (by decide) (by unfold maxLen; omega) (by omega) (by first | exact HB1.out.size | (have := HB1.out.size; simp; omega)) _ rfl ?_; intro g2 cap2 u2 ho2 hg2 hat2 hlt2; refine (fun (HB2 : Hid (Below w5.heap.size w5 u2)) => ?_) (Below.grown ?_ hg2 ?_ (fun j hj => (hr1.lt j hj).1)); rotate_left; (focus (repeat (first | exact Below.refl _ _ | refine Below.drew ?_ | refine push ?_ _ | refine after ?_ (grown_below hg1)))); (focus (first | exact HB1.out.size | (have := HB1.out.size; simp; omega))); have q0 := (HB2.out.cell (p := ⟨gl, k * 3 + 1, none⟩) (blk_lt bGY)).trans LY0; have q1 := blk_free (blk_below bGY HB2.out) (k * 3 + 1); refine hK.out _ _ (KS.out _ HB2.out) (fun hS => ?_)
          clear hK K
          simp only [Act.put, List.setIfInBounds_toArray, List.set_cons_zero, List.set_cons_succ]
          (refine wpAnyZ_takeL (i := 16) (v := ?_) rfl (by kernel_rfl) (fun _ _ _ h => h) (Or.inl ⟨by rfl, ?_⟩) (by assumption) ?_; rotate_left; (focus (intro w' hSw; (try dsimp only at hSw); go_simp; try with_reducible rfl)); simp only [Act.put, List.setIfInBounds_toArray, List.set_cons_zero, List.set_cons_succ])
          (refine wpAnyZ_takeL (i := 17) (v := ?_) rfl (by kernel_rfl) (fun _ _ _ h => h) (Or.inl ⟨by rfl, ?_⟩) (by assumption) ?_; rotate_left; (focus (intro w' hSw; (try dsimp only at hSw); go_simp; try with_reducible rfl)); simp only [Act.put, List.setIfInBounds_toArray, List.set_cons_zero, List.set_cons_succ])
          refine wpAnyZ_ready (rs := [18]) (by kernel_rfl) (by simp) ?_
          refine AllReadyZ.lastL rfl (fun K hK => ?_)
          go_simp
          refine hK.out _ _ ?_
          clear hK K
          refine wpAnyZ_done (by kernel_rfl) ?_ _
          have HF : Hid _ := doRo (k := k) (n := l.ron + 1) (T := roomCat l.ro l.ron (fun _ => ⟨who, (m : Int), be, false⟩)) (v := ⟨leg, 1, false, who, ⟨pe, len, hei, cl, false, be⟩⟩) HO.out HQ.out HBG.out (after hbY HB2.out) (own_base (by rw [roomList_cat, roomList_succ, show roomList (fun _ => (⟨who, (m : Int), be, false⟩ : Room)) 0 = [] from rfl, List.nil_append]; exact ho2) hbY.size) (by rw [HLD.out]; exact .addBerth m rfl rfl rfl (by rw [← HSD.out, ← HLD.out]; exact HPI.out))
          go_wp2
          go_ret
          exact HF.out
        exact AllReadyZ.nil
      exact AllReadyZ.nil
    refine AllReadyZ.consL rfl (fun K hK => ?_) ?_
    · go_simp; refine hK.out _ _ (KS.out _ (by repeat (first | exact HB1.out | exact Below.refl _ _ | refine Below.drew ?_ | refine push ?_ _))) (fun hS => ?_)
      clear hK K
      simp only [List.set_cons_zero, List.set_cons_succ]
      refine wpAnyZ_ready (rs := [6]) (by kernel_rfl) (by simp) ?_
      refine AllReadyZ.consL rfl (fun K hK => ?_) ?_
      · refine step_append_own0 (by rfl) (.tmp 227) (.tmp 231) 134 (by rfl) 190 i0 (.agg #[.int .i64 0, .int .i64 0, .int .i64 0, .bool false]) 4 32 Tryz.underlying134 ii iz0 iz1 iz2 rfl (by decide) w5.heap.size _ (by rfl) (by first | exact Nat.le_refl _ | omega | (simp; done) | (simp; omega)) (by repeat (first | ((with_reducible refine new_at _ _ _ ?_); (first | rfl | (simp; done))) | with_reducible refine blk_drew ?_ | with_reducible refine blk_alloc ?_ _)) aro l.ron cro (roomList l.ro l.ron) (by rfl) HN.out (roomList_length _ _) (rooms_cells (HLL.out _ (by repeat (first | exact Below.refl _ _ | refine Below.drew ?_ | refine push ?_ _)))) (roomList_one _ _) (by unfold maxLen; omega) (by omega) ?_; intro p1 q1 u1 hg1 hr1 hat1; clear hat1; have HB1 : Hid (Below w5.heap.size w5 u1) := (by show Below _ _ _; refine after ?_ (grown_below hg1); exact (by repeat (first | exact Below.refl _ _ | refine Below.drew ?_ | refine push ?_ _))); refine hK.out _ _ (KS.out _ HB1.out) (fun hS => ?_)
        clear hK K
        simp only [Act.put, List.setIfInBounds_toArray, List.set_cons_zero, List.set_cons_succ]
        refine wpAnyZ_ready (rs := [15]) (by kernel_rfl) (by simp) ?_
        refine AllReadyZ.consL rfl (fun K hK => ?_) ?_
        · refine step_append_lies _ (by rfl) (.tmp 232) (.tmp 240) 134 (by rfl) w5.heap.size 190 i0 (.agg #[.int .i64 0, .int .i64 0, .int .i64 0, .bool false]) 4 32 Tryz.underlying134 ii iz0 iz1 iz2 rfl (by decide) _ l.ron (roomList l.ro l.ron) (by rfl) (by first | exact hr1 | exact hr1.alloc _ | exact own_below (push (Below.refl _ _) _) hr1) _ 1 1 [.int .i64 who, .int .i64 (m : Int), .int .i64 (be), .bool false] (by rfl) (by rfl) (by refine World.news_of_block (cs := #[.int .i64 who, .int .i64 (m : Int), .int .i64 (be), .bool false]) (t := 190) (fr := (0, 0)) ?_; exact (by repeat (first | ((with_reducible refine new_at _ _ _ ?_); (first | rfl | (simp; done))) | with_reducible refine blk_drew ?_ | with_reducible refine blk_alloc ?_ _ | with_reducible refine blk_below ?_ (grown_below hg1)))) (by intro u hu; simp at hu; rcases hu with rfl | rfl | rfl | rfl <;> rfl) (by decide) (by unfold maxLen; omega) (by omega) (by first | exact HB1.out.size | (have := HB1.out.size; simp; omega)) _ rfl ?_; intro g2 cap2 u2 ho2 hg2 hat2 hlt2; refine (fun (HB2 : Hid (Below w5.heap.size w5 u2)) => ?_) (Below.grown ?_ hg2 ?_ (fun j hj => (hr1.lt j hj).1)); rotate_left; (focus (repeat (first | exact Below.refl _ _ | refine Below.drew ?_ | refine push ?_ _ | refine after ?_ (grown_below hg1)))); (focus (first | exact HB1.out.size | (have := HB1.out.size; simp; omega))); have q0 := (HB2.out.cell (p := ⟨gl, k * 3 + 1, none⟩) (blk_lt bGY)).trans LY0; have q1 := blk_free (blk_below bGY HB2.out) (k * 3 + 1); refine hK.out _ _ (KS.out _ HB2.out) (fun hS => ?_)
          clear hK K
          simp only [Act.put, List.setIfInBounds_toArray, List.set_cons_zero, List.set_cons_succ]
          (refine wpAnyZ_takeL (i := 16) (v := ?_) rfl (by kernel_rfl) (fun _ _ _ h => h) (Or.inl ⟨by rfl, ?_⟩) (by assumption) ?_; rotate_left; (focus (intro w' hSw; (try dsimp only at hSw); go_simp; try with_reducible rfl)); simp only [Act.put, List.setIfInBounds_toArray, List.set_cons_zero, List.set_cons_succ])
          (refine wpAnyZ_takeL (i := 17) (v := ?_) rfl (by kernel_rfl) (fun _ _ _ h => h) (Or.inl ⟨by rfl, ?_⟩) (by assumption) ?_; rotate_left; (focus (intro w' hSw; (try dsimp only at hSw); go_simp; try with_reducible rfl)); simp only [Act.put, List.setIfInBounds_toArray, List.set_cons_zero, List.set_cons_succ])
          refine wpAnyZ_ready (rs := [18]) (by kernel_rfl) (by simp) ?_
          refine AllReadyZ.lastL rfl (fun K hK => ?_)
          go_simp
          refine hK.out _ _ ?_
          clear hK K
          refine wpAnyZ_done (by kernel_rfl) ?_ _
          have HF : Hid _ := doRo (k := k) (n := l.ron + 1) (T := roomCat l.ro l.ron (fun _ => ⟨who, (m : Int), be, false⟩)) (v := ⟨leg, 1, false, who, ⟨pe, len, hei, cl, false, be⟩⟩) HO.out HQ.out HBG.out (after hbY HB2.out) (own_base (by rw [roomList_cat, roomList_succ, show roomList (fun _ => (⟨who, (m : Int), be, false⟩ : Room)) 0 = [] from rfl, List.nil_append]; exact ho2) hbY.size) (by rw [HLD.out]; exact .addBerth m rfl rfl rfl (by rw [← HSD.out, ← HLD.out]; exact HPI.out))
          go_wp2
          go_ret
          exact HF.out
        exact AllReadyZ.nil
      exact AllReadyZ.nil
    exact AllReadyZ.nil
  refine AllReadyZ.consL rfl (fun K hK => ?_) ?_
  · go_simp; refine hK.out _ _ (KS.out _ (by repeat (first | exact HB1.out | exact Below.refl _ _ | refine Below.drew ?_ | refine push ?_ _))) (fun hS => ?_)
    clear hK K
    simp only [List.set_cons_zero, List.set_cons_succ]
    refine wpAnyZ_ready (rs := [1]) (by kernel_rfl) (by simp) ?_
    refine AllReadyZ.consL rfl (fun K hK => ?_) ?_
    · go_simp; refine hK.out _ _ (KS.out _ (by repeat (first | exact HB1.out | exact Below.refl _ _ | refine Below.drew ?_ | refine push ?_ _))) (fun hS => ?_)
      clear hK K
      simp only [List.set_cons_zero, List.set_cons_succ]
      refine wpAnyZ_ready (rs := [6]) (by kernel_rfl) (by simp) ?_
      refine AllReadyZ.consL rfl (fun K hK => ?_) ?_
      · refine step_append_own0 (by rfl) (.tmp 227) (.tmp 231) 134 (by rfl) 190 i0 (.agg #[.int .i64 0, .int .i64 0, .int .i64 0, .bool false]) 4 32 Tryz.underlying134 ii iz0 iz1 iz2 rfl (by decide) w5.heap.size _ (by rfl) (by first | exact Nat.le_refl _ | omega | (simp; done) | (simp; omega)) (by repeat (first | ((with_reducible refine new_at _ _ _ ?_); (first | rfl | (simp; done))) | with_reducible refine blk_drew ?_ | with_reducible refine blk_alloc ?_ _)) aro l.ron cro (roomList l.ro l.ron) (by rfl) HN.out (roomList_length _ _) (rooms_cells (HLL.out _ (by repeat (first | exact Below.refl _ _ | refine Below.drew ?_ | refine push ?_ _)))) (roomList_one _ _) (by unfold maxLen; omega) (by omega) ?_; intro p1 q1 u1 hg1 hr1 hat1; clear hat1; have HB1 : Hid (Below w5.heap.size w5 u1) := (by show Below _ _ _; refine after ?_ (grown_below hg1); exact (by repeat (first | exact Below.refl _ _ | refine Below.drew ?_ | refine push ?_ _))); refine hK.out _ _ (KS.out _ HB1.out) (fun hS => ?_)
        clear hK K
        simp only [Act.put, List.setIfInBounds_toArray, List.set_cons_zero, List.set_cons_succ]
        refine wpAnyZ_ready (rs := [15]) (by kernel_rfl) (by simp) ?_
        refine AllReadyZ.consL rfl (fun K hK => ?_) ?_
        · refine step_append_lies _ (by rfl) (.tmp 232) (.tmp 240) 134 (by rfl) w5.heap.size 190 i0 (.agg #[.int .i64 0, .int .i64 0, .int .i64 0, .bool false]) 4 32 Tryz.underlying134 ii iz0 iz1 iz2 rfl (by decide) _ l.ron (roomList l.ro l.ron) (by rfl) (by first | exact hr1 | exact hr1.alloc _ | exact own_below (push (Below.refl _ _) _) hr1) _ 1 1 [.int .i64 who, .int .i64 (m : Int), .int .i64 (be), .bool false] (by rfl) (by rfl) (by refine World.news_of_block (cs := #[.int .i64 who, .int .i64 (m : Int), .int .i64 (be), .bool false]) (t := 190) (fr := (0, 0)) ?_; exact (by repeat (first | ((with_reducible refine new_at _ _ _ ?_); (first | rfl | (simp; done))) | with_reducible refine blk_drew ?_ | with_reducible refine blk_alloc ?_ _ | with_reducible refine blk_below ?_ (grown_below hg1)))) (by intro u hu; simp at hu; rcases hu with rfl | rfl | rfl | rfl <;> rfl) (by decide) (by unfold maxLen; omega) (by omega) (by first | exact HB1.out.size | (have := HB1.out.size; simp; omega)) _ rfl ?_; intro g2 cap2 u2 ho2 hg2 hat2 hlt2; refine (fun (HB2 : Hid (Below w5.heap.size w5 u2)) => ?_) (Below.grown ?_ hg2 ?_ (fun j hj => (hr1.lt j hj).1)); rotate_left; (focus (repeat (first | exact Below.refl _ _ | refine Below.drew ?_ | refine push ?_ _ | refine after ?_ (grown_below hg1)))); (focus (first | exact HB1.out.size | (have := HB1.out.size; simp; omega))); have q0 := (HB2.out.cell (p := ⟨gl, k * 3 + 1, none⟩) (blk_lt bGY)).trans LY0; have q1 := blk_free (blk_below bGY HB2.out) (k * 3 + 1); refine hK.out _ _ (KS.out _ HB2.out) (fun hS => ?_)
          clear hK K
          simp only [Act.put, List.setIfInBounds_toArray, List.set_cons_zero, List.set_cons_succ]
          (refine wpAnyZ_takeL (i := 16) (v := ?_) rfl (by kernel_rfl) (fun _ _ _ h => h) (Or.inl ⟨by rfl, ?_⟩) (by assumption) ?_; rotate_left; (focus (intro w' hSw; (try dsimp only at hSw); go_simp; try with_reducible rfl)); simp only [Act.put, List.setIfInBounds_toArray, List.set_cons_zero, List.set_cons_succ])
          (refine wpAnyZ_takeL (i := 17) (v := ?_) rfl (by kernel_rfl) (fun _ _ _ h => h) (Or.inl ⟨by rfl, ?_⟩) (by assumption) ?_; rotate_left; (focus (intro w' hSw; (try dsimp only at hSw); go_simp; try with_reducible rfl)); simp only [Act.put, List.setIfInBounds_toArray, List.set_cons_zero, List.set_cons_succ])
          refine wpAnyZ_ready (rs := [18]) (by kernel_rfl) (by simp) ?_
          refine AllReadyZ.lastL rfl (fun K hK => ?_)
          go_simp
          refine hK.out _ _ ?_
          clear hK K
          refine wpAnyZ_done (by kernel_rfl) ?_ _
          have HF : Hid _ := doRo (k := k) (n := l.ron + 1) (T := roomCat l.ro l.ron (fun _ => ⟨who, (m : Int), be, false⟩)) (v := ⟨leg, 1, false, who, ⟨pe, len, hei, cl, false, be⟩⟩) HO.out HQ.out HBG.out (after hbY HB2.out) (own_base (by rw [roomList_cat, roomList_succ, show roomList (fun _ => (⟨who, (m : Int), be, false⟩ : Room)) 0 = [] from rfl, List.nil_append]; exact ho2) hbY.size) (by rw [HLD.out]; exact .addBerth m rfl rfl rfl (by rw [← HSD.out, ← HLD.out]; exact HPI.out))
          go_wp2
          go_ret
          exact HF.out
        exact AllReadyZ.nil
      exact AllReadyZ.nil
    exact AllReadyZ.nil
  exact AllReadyZ.nil

end Go.Proofs.YtfallpinmhbemaaGreatDoor

namespace Go.Proofs.YtfallpinmhbemaaGreatDoor
open Go.RowKit

set_option maxHeartbeats 800000 in
set_option maxRecDepth 100000 in
theorem l5Sits_any (ao : Option Addr) (n c : Nat) (S : Nat → Seat) (x : Int) (w : World) (hn : n ≤ 1048576) (hz : SeatsAt w ao n S) :
    Calls Tryz.prog 135 #[.slice ao n c, .int .i64 x] w fun e w' => SaysIf (Has (whoT S) n x) e ∧ Below w.heap.size w w' := by
  go_enter Tryz.func135, Tryz.ntmps135
  go_wp2
  go_loopw [6, 9] (fun _ i wr => ∃ k : Nat, k ≤ n ∧ i = .int .i64 k ∧ (∀ j, j < k → whoT S j ≠ x) ∧ Below w.heap.size w wr) (fun _ i _ => n - (intOf i).toNat)
  case atStart => exact ⟨0, Nat.zero_le _, rfl, fun j hj => by omega, Below.refl _ _⟩
  case round =>
    obtain ⟨k, hk, rfl, hall, hbel⟩ := hrel
    have HA : Hid (∀ j, j < k → whoT S j ≠ x) := hall
    clear hall
    by_cases hlt2 : k < n
    · obtain ⟨b, off, rfl, h0, h1⟩ := hz k hlt2
      have hb := World.block_lt_of_cell? w _ h0
      have c0 := (hbel.cell (p := ⟨b, off + k * 2, none⟩) hb).trans h0
      have c1 := (hbel.cell (p := ⟨b, off + k * 2 + 1, none⟩) hb).trans h1
      clear h0 h1
      by_cases he : whoT S k = x
      · have e1 : ((S k).who == x) = true := by unfold whoT at he; simpa using he
        have HF : Hid (Has (whoT S) n x) := ⟨k, hlt2, he⟩
        clear he
        go_wp2
        go_ret
        exact ⟨says_yes HF.out, push hbel _⟩
      · have e1 : ((S k).who == x) = false := by unfold whoT at he; simpa using he
        have HE : Hid (whoT S k ≠ x) := he
        clear he
        go_wp2
        go_roundw
        case rel => exact ⟨k + 1, by omega, by go_num, fun j hj => by
          by_cases e : j = k
          · subst e; exact HE.out
          · exact HA.out j (by omega), push hbel _⟩
        case measure => simp [intOf]; omega
    · obtain rfl : k = n := by omega
      have HF : Hid (¬ Has (whoT S) k x) := not_has HA.out
      go_wp2
      go_ret
      exact ⟨says_no HF.out, hbel⟩

set_option maxHeartbeats 800000 in
set_option maxRecDepth 100000 in
theorem l5Seats_any (bo : Option Addr) (n c : Nat) (S : Nat → Seat) (w : World) (hn : n ≤ 60) (hs : ∀ j, j < n → In (S j).many 1 20) (hz : SeatsAt w bo n S) :
    Calls Tryz.prog 136 #[.slice bo n c] w fun e w' => e = .returned (.int .i64 (sits S n)) ∧ Below w.heap.size w w' := by
  have HS : Hid (∀ j, j < n → In (S j).many 1 20) := hs
  clear hs
  go_enter Tryz.func136, Tryz.ntmps136
  go_wp2
  go_loopw [3, 5, 8] (fun v _ i wr => ∃ k : Nat, k ≤ n ∧ i = .int .i64 k ∧ v = .int .i64 (sits S k) ∧ Below w.heap.size w wr) (fun _ _ i _ => n - (intOf i).toNat)
  case atStart => exact ⟨0, Nat.zero_le _, rfl, rfl, Below.refl _ _⟩
  case round =>
    obtain ⟨k, hk, rfl, rfl, hbel⟩ := hrel
    by_cases hlt : k < n
    · obtain ⟨b, off, rfl, h0, h1⟩ := hz k hlt
      have hb := World.block_lt_of_cell? w _ h0
      have c0 := (hbel.cell (p := ⟨b, off + k * 2, none⟩) hb).trans h0
      have c1 := (hbel.cell (p := ⟨b, off + k * 2 + 1, none⟩) hb).trans h1
      clear h0 h1
      have hwr : IntKind.i64.wrap (sits S k + (S k).many) = sits S (k + 1) := by
        have h1 := sits_bounds S k (fun j hj => HS.out j (by omega))
        have h2 := HS.out k hlt
        unfold In at h2
        have h3 : sits S (k + 1) = sits S k + (S k).many := rfl
        rw [h3, IntKind.wrap_i64]; omega
      go_wp2
      go_roundw
      case rel => exact ⟨k + 1, by omega, by go_num, rfl, push hbel _⟩
      case measure => simp [intOf]; omega
    · obtain rfl : k = n := by omega
      go_wp2
      go_ret
      exact ⟨rfl, hbel⟩

set_option maxHeartbeats 3200000 in
set_option maxRecDepth 100000 in
theorem specSeats_any (most : Int) (bo : Option Addr) (n c : Nat) (S : Nat → Seat) (w : World) (hn : n ≤ 2097152) (hc : n ≤ c) (hz : SeatsAt w bo n S) :
    Calls Tryz.prog 114 #[.int .i64 most, .slice bo n c] w fun e w' => SaysIf (SeatsOk most n S) e ∧ Below w.heap.size w w' := by
  have HZ : Hid (SeatsAt w bo n S) := hz
  clear hz
  by_cases g0 : In most 0 500
  · have e0 : decide (In most 0 500) = true := decide_eq_true g0
    have H0 : Hid (In most 0 500) := g0
    clear g0
    by_cases h60 : n ≤ 60
    · have d0 : decide (60 < n) = false := by simp; omega
      go_enter Tryz.func114, Tryz.ntmps114
      go_wp2_with (first | (go_at_call 19; refine (l1In_is _ _ _ _).mono ?_; rintro e w' ⟨rfl, hw'⟩; have hw' := hw'.symm; subst hw'))
      go_loopw [5, 6, 17] (fun _ _ i wr => ∃ k : Nat, k ≤ n ∧ i = .int .i64 k ∧ (∀ j, j < k → In (S j).who 1 9999 ∧ ¬ Has (whoT S) j (S j).who ∧ In (S j).many 1 20) ∧ Below w.heap.size w wr) (fun _ _ i _ => n - (intOf i).toNat)
      case atStart => exact ⟨0, Nat.zero_le _, rfl, fun j hj => by omega, Below.refl _ _⟩
      case round =>
        obtain ⟨i, hi, rfl, hall, hbel⟩ := hrel
        have HA : Hid (∀ j, j < i → In (S j).who 1 9999 ∧ ¬ Has (whoT S) j (S j).who ∧ In (S j).many 1 20) := hall
        clear hall e0 d0
        by_cases hlt : i < n
        · obtain ⟨b, off, rfl, h0, h1⟩ := HZ.out i hlt
          have hb := World.block_lt_of_cell? w _ h0
          have c0 := (hbel.cell (p := ⟨b, off + i * 2, none⟩) hb).trans h0
          have c1 := (hbel.cell (p := ⟨b, off + i * 2 + 1, none⟩) hb).trans h1
          have hbox := heap_alloc_new wr (.cells #[.int .i64 (S i).who, .int .i64 (S i).many] 138)
          have hbx := push hbel (.cells #[.int .i64 (S i).who, .int .i64 (S i).many] 138)
          clear h0 h1
          go_upto_region 6 with fail
          generalize hW : wr.alloc (.cells #[.int .i64 (S i).who, .int .i64 (S i).many] 138) = W at hbox hbx ⊢
          clear hW
          have hsW : wr.heap.size < W.heap.size := blk_lt hbox
          have z0 : ∀ g : Grown W, g.val.cell? ⟨wr.heap.size, 0, none⟩ = some (.int .i64 (S i).who) := fun g => (g.bel.cell hsW).trans (blk_cell hbox 0 _ rfl)
          have z1 : ∀ g : Grown W, g.val.cell? ⟨wr.heap.size, 1, none⟩ = some (.int .i64 (S i).many) := fun g => (g.bel.cell hsW).trans (blk_cell hbox 1 _ rfl)
          have i1 : (0 : Int) ≤ (i : Int) := by omega
          have i2 : (i : Int) ≤ (c : Int) := by omega
          clear c0 c1 hbox hbel
          by_cases g1 : In (S i).who 1 9999
          · have e1 : decide (In (S i).who 1 9999) = true := decide_eq_true g1
            have H1 : Hid (In (S i).who 1 9999) := g1
            clear g1
            by_cases g2 : Has (whoT S) i (S i).who
            · have H2 : Hid (Has (whoT S) i (S i).who) := g2
              clear g2
              refine wp_region_grow (by kernel_rfl) (by kernel_rfl) ?_
              repeat (first | go_big_quiet_skip | (go_big_quiet_want; go_big_quiet_op; first | go_big_quiet_on | (apply Exists.intro; refine ⟨fun g => ?_, ?_⟩; (focus (first | (go_at_call 119; refine grown_call (v := .bool true) ((l4By_is _ _).mono ?_); rintro e w4 ⟨rfl, rfl⟩; exact ⟨by rw [e1], Below.refl _ _⟩) | (go_at_call 135; refine grown_call (v := .bool true) ((l5Sits_any _ i c S (S i).who _ (by omega) ((HZ.out.upto (by omega)).below (after hbx g.bel))).mono ?_); rintro e w4 ⟨⟨bb, rfl, hi⟩, hbb⟩; obtain rfl := hi.2 H2.out; exact ⟨rfl, hbb⟩))); go_big_quiet_on)))
              refine wpQuiet_nil ?_
              rintro _ ⟨g, rfl⟩
              go_wp2
              go_ret
              exact ⟨says_no (fun h => (h.2.2.1 i hlt).2.1 H2.out), after hbx g.bel⟩
            · have H2 : Hid (¬ Has (whoT S) i (S i).who) := g2
              clear g2
              by_cases g3 : In (S i).many 1 20
              · have e3 : decide (In (S i).many 1 20) = true := decide_eq_true g3
                have H3 : Hid (In (S i).many 1 20) := g3
                clear g3
                refine wp_region_grow (by kernel_rfl) (by kernel_rfl) ?_
                repeat (first | go_big_quiet_skip | (go_big_quiet_want; go_big_quiet_op; first | go_big_quiet_on | (apply Exists.intro; refine ⟨fun g => ?_, ?_⟩; (focus (first | (go_at_call 119; refine grown_call (v := .bool true) ((l4By_is _ _).mono ?_); rintro e w4 ⟨rfl, rfl⟩; exact ⟨by rw [e1], Below.refl _ _⟩) | (go_at_call 135; refine grown_call (v := .bool false) ((l5Sits_any _ i c S (S i).who _ (by omega) ((HZ.out.upto (by omega)).below (after hbx g.bel))).mono ?_); rintro e w4 ⟨⟨bb, rfl, hi⟩, hbb⟩; obtain rfl := Bool.eq_false_iff.2 (fun e => H2.out (hi.1 e)); exact ⟨rfl, hbb⟩) | (go_at_call 19; refine grown_call (v := .bool true) ((l1In_is _ _ _ _).mono ?_); rintro e w4 ⟨rfl, rfl⟩; exact ⟨by rw [e3], Below.refl _ _⟩))); go_big_quiet_on)))
                refine wpQuiet_nil ?_
                rintro _ ⟨g, rfl⟩
                go_wp2
                have HAN : Hid (∀ j, j < i + 1 → In (S j).who 1 9999 ∧ ¬ Has (whoT S) j (S j).who ∧ In (S j).many 1 20) := fun j hj => by
                  by_cases e : j = i
                  · subst e; exact ⟨H1.out, H2.out, H3.out⟩
                  · exact HA.out j (by omega)
                go_roundw
                case rel => exact ⟨i + 1, by omega, by go_num, HAN.out, after hbx g.bel⟩
                case measure => simp [intOf]; omega
              · have e3 : decide (In (S i).many 1 20) = false := decide_eq_false g3
                have H3 : Hid (¬ In (S i).many 1 20) := g3
                clear g3
                refine wp_region_grow (by kernel_rfl) (by kernel_rfl) ?_
                repeat (first | go_big_quiet_skip | (go_big_quiet_want; go_big_quiet_op; first | go_big_quiet_on | (apply Exists.intro; refine ⟨fun g => ?_, ?_⟩; (focus (first | (go_at_call 119; refine grown_call (v := .bool true) ((l4By_is _ _).mono ?_); rintro e w4 ⟨rfl, rfl⟩; exact ⟨by rw [e1], Below.refl _ _⟩) | (go_at_call 135; refine grown_call (v := .bool false) ((l5Sits_any _ i c S (S i).who _ (by omega) ((HZ.out.upto (by omega)).below (after hbx g.bel))).mono ?_); rintro e w4 ⟨⟨bb, rfl, hi⟩, hbb⟩; obtain rfl := Bool.eq_false_iff.2 (fun e => H2.out (hi.1 e)); exact ⟨rfl, hbb⟩) | (go_at_call 19; refine grown_call (v := .bool false) ((l1In_is _ _ _ _).mono ?_); rintro e w4 ⟨rfl, rfl⟩; exact ⟨by rw [e3], Below.refl _ _⟩))); go_big_quiet_on)))
                refine wpQuiet_nil ?_
                rintro _ ⟨g, rfl⟩
                go_wp2
                go_ret
                exact ⟨says_no (fun h => H3.out (h.2.2.1 i hlt).2.2), after hbx g.bel⟩
          · have e1 : decide (In (S i).who 1 9999) = false := decide_eq_false g1
            have H1 : Hid (¬ In (S i).who 1 9999) := g1
            clear g1
            refine wp_region_grow (by kernel_rfl) (by kernel_rfl) ?_
            repeat (first | go_big_quiet_skip | (go_big_quiet_want; go_big_quiet_op; first | go_big_quiet_on | (apply Exists.intro; refine ⟨fun g => ?_, ?_⟩; (focus (first | (go_at_call 119; refine grown_call (v := .bool false) ((l4By_is _ _).mono ?_); rintro e w4 ⟨rfl, rfl⟩; exact ⟨by rw [e1], Below.refl _ _⟩))); go_big_quiet_on)))
            refine wpQuiet_nil ?_
            rintro _ ⟨g, rfl⟩
            go_wp2
            go_ret
            exact ⟨says_no (fun h => H1.out (h.2.2.1 i hlt).1), after hbx g.bel⟩
        · obtain rfl : i = n := by omega
          go_wp2_with fail
          refine (l5Seats_any bo i c S _ h60 (fun j hj => (HA.out j hj).2.2) (HZ.out.below hbel)).mono ?_
          rintro e w2 ⟨rfl, hb2⟩
          have hbw := after hbel hb2
          by_cases hle : sits S i ≤ most
          · have e5 : decide (sits S i ≤ most) = true := decide_eq_true hle
            have HLE : Hid (sits S i ≤ most) := hle
            clear hle
            go_wp2
            go_ret
            exact ⟨says_yes ⟨H0.out, h60, HA.out, HLE.out⟩, hbw⟩
          · have e5 : decide (sits S i ≤ most) = false := decide_eq_false hle
            have HLE : Hid (¬ sits S i ≤ most) := hle
            clear hle
            go_wp2
            go_ret
            exact ⟨says_no (fun h => by have := HLE.out; have := h.2.2.2; omega), hbw⟩
    · have d0 : decide (60 < n) = true := by simp; omega
      go_enter Tryz.func114, Tryz.ntmps114
      go_wp2_with (first | (go_at_call 19; refine (l1In_is _ _ _ _).mono ?_; rintro e w' ⟨rfl, hw'⟩; have hw' := hw'.symm; subst hw'))
      go_ret
      exact ⟨says_no (fun h => h60 h.2.1), Below.refl _ _⟩
  · have e0 : decide (In most 0 500) = false := decide_eq_false g0
    have H0 : Hid (¬ In most 0 500) := g0
    clear g0
    go_enter Tryz.func114, Tryz.ntmps114
    go_wp2_with (first | (go_at_call 19; refine (l1In_is _ _ _ _).mono ?_; rintro e w' ⟨rfl, hw'⟩; have hw' := hw'.symm; subst hw'))
    go_ret
    exact ⟨says_no (fun h => H0.out h.1), Below.refl _ _⟩

end Go.Proofs.YtfallpinmhbemaaGreatDoor
