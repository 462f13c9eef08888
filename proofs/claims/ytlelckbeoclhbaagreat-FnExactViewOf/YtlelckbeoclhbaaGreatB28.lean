/-
  OWN TEXT: SpecRows, KitOwn, KitLds, KitOwO.
-/
import Derived.Deep.RegionHeld3
import Derived.Test.YtlelckbeoclhbaaGreatB12
import Derived.Test.YtlelckbeoclhbaaGreatB27
import Derived.Test.YtlelckbeoclhbaaGreatB15
import Derived.Test.YtlelckbeoclhbaaGreatB14
import Derived.Test.YtlelckbeoclhbaaGreatB02
import Derived.Test.YtlelckbeoclhbaaGreatB09
import Derived.Test.YtlelckbeoclhbaaGreatB00
import Derived.Test.YtlelckbeoclhbaaGreatB10
set_option maxHeartbeats 12800000
set_option maxRecDepth 100000
namespace Go.Proofs.YtlelckbeoclhbaaGreat
open Go.RowKit
theorem setV {n : Nat} {w w' : World} (h : Below n w w') {g o : Nat} (hg : n ≤ g) (v : Value) : Below n w (w'.setCell ⟨g, o, none⟩ v) := h.setCell (p := ⟨g, o, none⟩) hg v
theorem rec3W {w : World} {g t : Nat} {u0 u1 u2 : Value} (h : w.heap[g]? = some (.cells #[u0, u1, u2] t (0, 0))) (v0 v1 v2 : Value) :
    (((w.setCell ⟨g, 0, none⟩ v0).setCell ⟨g, 1, none⟩ v1).setCell ⟨g, 2, none⟩ v2).heap[g]? = some (.cells #[v0, v1, v2] t (0, 0)) := by
  have a : (w.setCell ⟨g, 0, none⟩ v0).heap[g]? = some (.cells #[v0, u1, u2] t (0, 0)) := by simpa using blk_set h 0 v0
  have b : ((w.setCell ⟨g, 0, none⟩ v0).setCell ⟨g, 1, none⟩ v1).heap[g]? = some (.cells #[v0, v1, u2] t (0, 0)) := by simpa using blk_set a 1 v1
  simpa using blk_set b 2 v2
theorem rowln_set {w : World} {g t : Nat} {u0 u1 u2 u3 u4 : Value} (h : w.heap[g]? = some (.cells #[u0, u1, u2, u3, u4] t (0, 0))) (v : Value) : (w.setCell ⟨g, 3, none⟩ v).heap[g]? = some (.cells #[u0, u1, u2, v, u4] t (0, 0)) := by simpa using blk_set h 3 v
theorem rowcab_set {w : World} {g t : Nat} {u0 u1 u2 u3 u4 : Value} (h : w.heap[g]? = some (.cells #[u0, u1, u2, u3, u4] t (0, 0))) (v : Value) : (w.setCell ⟨g, 4, none⟩ v).heap[g]? = some (.cells #[u0, u1, u2, u3, v] t (0, 0)) := by simpa using blk_set h 4 v
theorem specRows_raw (x : Off) (asa ald abk : Option Addr) (csa cld cbk k : Nat) (z : Int) (w : World) (hs : Off.Short x 1048576) (hsa : SailsAt w asa x.san x.sa) (hld : LoadsAt w ald x.ldn x.ld) (hbk : BooksAt w abk x.bkn x.bk) (hcb : x.bkn ≤ 30) (hkd : findIx x.sa z x.san = k) (hlt : k < x.san) (hm1 : x.ldn = x.san) :
    Calls Tryz.prog 18 #[.agg #[.slice asa x.san csa, .slice ald x.ldn cld, .slice abk x.bkn cbk], .int .i64 z] w fun e w' => (∃ v, e = .returned v ∧ w'.ownsRow w.heap.size 116 5 v (rowsL (x.ld k) x.bk z x.bkn).length (rowList (nthR (rowsL (x.ld k) x.bk z x.bkn)) (rowsL (x.ld k) x.bk z x.bkn).length)) ∧ Below w.heap.size w w' := by
  obtain ⟨j0, ji, jz0, jz1, jz2⟩ := info_parts Tryz.infoRow
  have HSA : Hid (SailsAt w asa x.san x.sa) := hsa
  have HBK : Hid (BooksAt w abk x.bkn x.bk) := hbk
  have HSH : Hid (Off.Short x 1048576) := hs
  have n1 : x.san ≤ 1048576 := hs.1.1
  have HKD : Hid (findIx x.sa z x.san = k) := hkd
  obtain ⟨C, hC, hI⟩ := hld
  obtain ⟨lb, lo, rfl, hc⟩ := hC k (by omega)
  obtain ⟨l, hld⟩ : ∃ l, l = x.ld k := ⟨_, rfl⟩
  obtain ⟨ast, cst, aro, cro, ase, cse, eC, hst, sst, hro, sro, hse, sse⟩ := hI k (by omega)
  rw [← hld] at eC hst sst hro sro hse sse
  have hsh := hs.2.1.2 k (by omega)
  rw [← hld] at hsh
  have n2 : l.stn ≤ 1048576 := hsh.1
  have n3 : l.ron ≤ 1048576 := hsh.2.1
  rw [← hld]
  have HST : Hid (StaysAt w ast l.stn l.st) := hst
  have HRO : Hid (RoomsAt w aro l.ron l.ro) := hro
  have llb : lb < w.heap.size := World.block_lt_of_cell? w _ (hc 0 (by decide))
  have hk0 : (0 : Int) ≤ (k : Int) := by omega
  have hk1 : (k : Int) < (x.ldn : Int) := by omega
  have HLD : Hid (w.cell? ⟨lb, lo + k * 3, none⟩ = some (.slice ast l.stn cst) ∧ w.cell? ⟨lb, lo + k * 3 + 1, none⟩ = some (.slice aro l.ron cro) ∧ w.cell? ⟨lb, lo + k * 3 + 2, none⟩ = some (.slice ase l.sen cse)) :=
    ⟨by have := hc 0 (by decide); rw [eC] at this; exact this, by have := hc 1 (by decide); rw [eC] at this; exact this, by have := hc 2 (by decide); rw [eC] at this; exact this⟩
  have HC3 : Hid (∀ w', Below w.heap.size w w' → Calls Tryz.prog 57 #[.slice asa x.san csa, .int .i64 z] w' fun e w2 => e = .returned (.int .i64 k) ∧ Below w'.heap.size w' w2) := fun w' h =>
    (l3At_any asa x.san csa x.sa z w' n1 (HSA.out.below h)).mono fun e w2 ⟨a, b⟩ => ⟨by
      rw [HKD.out] at a
      rcases a with ⟨_, rfl⟩ | ⟨h, _⟩
      · rfl
      · omega, b⟩
  have hb0 : Below w.heap.size w (w.alloc (.cells #[.slice asa x.san csa, .slice (some ⟨lb, lo, none⟩) x.ldn cld, .slice abk x.bkn cbk] 39)) := push (Below.refl _ _) _
  have bO := heap_alloc_new w (.cells #[.slice asa x.san csa, .slice (some ⟨lb, lo, none⟩) x.ldn cld, .slice abk x.bkn cbk] 39)
  clear hsa hbk hs hkd hC hI hc eC hst sst hro sro hse sse hsh hld hm1
  go_enter Tryz.func18, Tryz.ntmps18
  go_upto_region 1 with fail
  generalize w.alloc (.cells #[.slice asa x.san csa, .slice (some ⟨lb, lo, none⟩) x.ldn cld, .slice abk x.bkn cbk] 39) = V at hb0 bO ⊢
  have hVs := hb0.size
  have BW : Hid (∀ w', Below V.heap.size V w' → Below w.heap.size w w') := fun w' h => after hb0 h
  have bOl := blk_lt bO
  have KS : Hid (∀ w', Below V.heap.size V w' → (w'.cell? ⟨w.heap.size, 0, none⟩ = some (.slice asa x.san csa) ∧ w'.cell? ⟨w.heap.size, 1, none⟩ = some (.slice (some ⟨lb, lo, none⟩) x.ldn cld) ∧ w'.cell? ⟨lb, lo + k * 3, none⟩ = some (.slice ast l.stn cst) ∧ w'.cell? ⟨lb, lo + k * 3 + 1, none⟩ = some (.slice aro l.ron cro) ∧ w'.cell? ⟨lb, lo + k * 3 + 2, none⟩ = some (.slice ase l.sen cse))) := fun w' h => by
    have g1 := blk_below bO h
    have g2 := after hb0 h
    exact ⟨blk_cell g1 0 _ rfl, blk_cell g1 1 _ rfl, (g2.cell (p := ⟨lb, lo + k * 3, none⟩) llb).trans HLD.out.1, (g2.cell (p := ⟨lb, lo + k * 3 + 1, none⟩) llb).trans HLD.out.2.1, (g2.cell (p := ⟨lb, lo + k * 3 + 2, none⟩) llb).trans HLD.out.2.2⟩
  go_cut [5] (fun s5 wc => ∃ B, s5 = .pointer (some ⟨B, 0, none⟩) ∧ wc.heap[B]? = some (.cells #[.slice ast l.stn cst, .slice aro l.ron cro, .slice ase l.sen cse] 62 (0, 0)) ∧ Below V.heap.size V wc)
  case first =>
    go_region_held3 (fun w' => w'.cell? ⟨w.heap.size, 0, none⟩ = some (.slice asa x.san csa) ∧ w'.cell? ⟨w.heap.size, 1, none⟩ = some (.slice (some ⟨lb, lo, none⟩) x.ldn cld) ∧ w'.cell? ⟨lb, lo + k * 3, none⟩ = some (.slice ast l.stn cst) ∧ w'.cell? ⟨lb, lo + k * 3 + 1, none⟩ = some (.slice aro l.ron cro) ∧ w'.cell? ⟨lb, lo + k * 3 + 2, none⟩ = some (.slice ase l.sen cse))
      ((refine KS.out _ ?_; exact (by repeat (first | exact Below.refl _ _ | refine Below.drew ?_ | refine push ?_ _ | refine setV ?_ (by omega) _ | refine after ?_ hb4))))
      (first | (go_at_call 57; refine Calls.mono (HC3.out _ (BW.out _ (by repeat (first | exact Below.refl _ _ | refine Below.drew ?_ | refine push ?_ _ | refine setV ?_ (by omega) _ | refine after ?_ hb4)))) ?_; rintro e w4 ⟨rfl, hb4⟩; have s4 : V.heap.size ≤ w4.heap.size := (by have := hb4.size; first | omega | (simp at this; omega)); (first | (have hby : w4.heap[V.heap.size]? = some (.cells #[.slice none 0 0, .slice none 0 0, .slice none 0 0] 62 (0, 0)) := blk_below (heap_alloc_new V.drew (.cells #[.slice none 0 0, .slice none 0 0, .slice none 0 0] 62)) hb4; have y0 := blk_cell hby 0 _ rfl; have y1 := blk_cell hby 1 _ rfl; have y2 := blk_cell hby 2 _ rfl; have f0 := blk_free hby 0; have f1 := blk_free hby 1; have f2 := blk_free hby 2) | skip)))
    all_goals
      go_wp2
      go_meet
      first | exact ⟨_, rfl, heap_alloc_new w4 _, (by repeat (first | exact Below.refl _ _ | refine Below.drew ?_ | refine push ?_ _ | refine setV ?_ (by omega) _ | refine after ?_ hb4))⟩ | exact ⟨_, rfl, rec3W hby _ _ _, (by repeat (first | exact Below.refl _ _ | refine Below.drew ?_ | refine push ?_ _ | refine setV ?_ (by omega) _ | refine after ?_ hb4))⟩
  case rest =>
  obtain ⟨B, rfl, bL, hbc⟩ := hcut
  have bO1 := blk_below bO hbc
  have hb1 := after hb0 hbc
  clear bO hb0 hbc KS BW HC3 HLD bOl hVs
  have z2 := blk_cell bO1 2 _ rfl
  go_wp2
  clear z2
  go_loopw [6, 8, 9, 11, 13, 25] (fun v _ _ _ _ q wr => ∃ (i r : Nat), i ≤ x.bkn ∧ q = .int .i64 i ∧ r = (rowsL l x.bk z i).length ∧ wr.ownsRow wc.heap.size 116 5 v r (rowList (nthR (rowsL l x.bk z i)) r) ∧ Below wc.heap.size wc wr) (fun _ _ _ _ _ q _ => x.bkn - (intOf q).toNat)
  case atStart => exact ⟨0, 0, Nat.zero_le _, rfl, rfl, ⟨rfl, .inl ⟨rfl, rfl⟩⟩, Below.refl _ _⟩
  case round =>
    obtain ⟨i, r, hi, rfl, hrd, hown, hbel⟩ := hrel
    have HRD : Hid (r = (rowsL l x.bk z i).length) := hrd
    have hr30 : r ≤ 30 := by have := rowsL_le l x.bk z i; omega
    clear hrd
    have hbw := after hb1 hbel
    by_cases hlt2 : i < x.bkn
    · obtain ⟨D, hD, hJ⟩ := HBK.out
      obtain ⟨bb, bo, rfl, hc⟩ := hD i hlt2
      obtain ⟨b, hbd⟩ : ∃ b, b = x.bk i := ⟨_, rfl⟩
      obtain ⟨alg, clg, eC, hlg, slg⟩ := hJ i hlt2
      rw [← hbd] at eC hlg slg
      have HBB : Hid (b = x.bk i) := hbd
      have HBS : Hid (Book.Short b 1048576) := by rw [hbd]; exact HSH.out.2.2.2 i hlt2
      have HLG : Hid (IntsAt w alg b.lgn b.lg) := hlg
      have lbb : bb < w.heap.size := World.block_lt_of_cell? w _ (hc 0 (by decide))
      have c0 : wr.cell? ⟨bb, bo + i * 13, none⟩ = some (.int .i64 b.name) := (hbw.cell (p := ⟨bb, bo + i * 13, none⟩) lbb).trans (by have := hc 0 (by decide); rw [eC] at this; exact this)
      have c1 : wr.cell? ⟨bb, bo + i * 13 + 1, none⟩ = some (.int .i64 b.who) := (hbw.cell (p := ⟨bb, bo + i * 13 + 1, none⟩) lbb).trans (by have := hc 1 (by decide); rw [eC] at this; exact this)
      have c2 : wr.cell? ⟨bb, bo + i * 13 + 2, none⟩ = some (.string b.own) := (hbw.cell (p := ⟨bb, bo + i * 13 + 2, none⟩) lbb).trans (by have := hc 2 (by decide); rw [eC] at this; exact this)
      have c3 : wr.cell? ⟨bb, bo + i * 13 + 3, none⟩ = some (.slice alg b.lgn clg) := (hbw.cell (p := ⟨bb, bo + i * 13 + 3, none⟩) lbb).trans (by have := hc 3 (by decide); rw [eC] at this; exact this)
      have c4 : wr.cell? ⟨bb, bo + i * 13 + 4, none⟩ = some (.int .i64 b.pe) := (hbw.cell (p := ⟨bb, bo + i * 13 + 4, none⟩) lbb).trans (by have := hc 4 (by decide); rw [eC] at this; exact this)
      have c5 : wr.cell? ⟨bb, bo + i * 13 + 5, none⟩ = some (.int .i64 b.len) := (hbw.cell (p := ⟨bb, bo + i * 13 + 5, none⟩) lbb).trans (by have := hc 5 (by decide); rw [eC] at this; exact this)
      have c6 : wr.cell? ⟨bb, bo + i * 13 + 6, none⟩ = some (.int .i64 b.hei) := (hbw.cell (p := ⟨bb, bo + i * 13 + 6, none⟩) lbb).trans (by have := hc 6 (by decide); rw [eC] at this; exact this)
      have c7 : wr.cell? ⟨bb, bo + i * 13 + 7, none⟩ = some (.int .i64 b.cl) := (hbw.cell (p := ⟨bb, bo + i * 13 + 7, none⟩) lbb).trans (by have := hc 7 (by decide); rw [eC] at this; exact this)
      have c8 : wr.cell? ⟨bb, bo + i * 13 + 8, none⟩ = some (.bool b.all) := (hbw.cell (p := ⟨bb, bo + i * 13 + 8, none⟩) lbb).trans (by have := hc 8 (by decide); rw [eC] at this; exact this)
      have c9 : wr.cell? ⟨bb, bo + i * 13 + 9, none⟩ = some (.int .i64 b.be) := (hbw.cell (p := ⟨bb, bo + i * 13 + 9, none⟩) lbb).trans (by have := hc 9 (by decide); rw [eC] at this; exact this)
      have c10 : wr.cell? ⟨bb, bo + i * 13 + 10, none⟩ = some (.int .i64 b.state) := (hbw.cell (p := ⟨bb, bo + i * 13 + 10, none⟩) lbb).trans (by have := hc 10 (by decide); rw [eC] at this; exact this)
      have c11 : wr.cell? ⟨bb, bo + i * 13 + 11, none⟩ = some (.int .i64 b.unt) := (hbw.cell (p := ⟨bb, bo + i * 13 + 11, none⟩) lbb).trans (by have := hc 11 (by decide); rw [eC] at this; exact this)
      have c12 : wr.cell? ⟨bb, bo + i * 13 + 12, none⟩ = some (.int .i64 b.price) := (hbw.cell (p := ⟨bb, bo + i * 13 + 12, none⟩) lbb).trans (by have := hc 12 (by decide); rw [eC] at this; exact this)
      clear hD hJ hc eC hbd hlg slg
      go_wp2_with fail
      have bB := heap_alloc_new wr (.cells #[.int .i64 b.name, .int .i64 b.who, .string b.own, .slice alg b.lgn clg, .int .i64 b.pe, .int .i64 b.len, .int .i64 b.hei, .int .i64 b.cl, .bool b.all, .int .i64 b.be, .int .i64 b.state, .int .i64 b.unt, .int .i64 b.price] 72)
      have hbq : Below wc.heap.size wc (wr.alloc (.cells #[.int .i64 b.name, .int .i64 b.who, .string b.own, .slice alg b.lgn clg, .int .i64 b.pe, .int .i64 b.len, .int .i64 b.hei, .int .i64 b.cl, .bool b.all, .int .i64 b.be, .int .i64 b.state, .int .i64 b.unt, .int .i64 b.price] 72)) := push hbel _
      have hown1 := hown.alloc (.cells #[.int .i64 b.name, .int .i64 b.who, .string b.own, .slice alg b.lgn clg, .int .i64 b.pe, .int .i64 b.len, .int .i64 b.hei, .int .i64 b.cl, .bool b.all, .int .i64 b.be, .int .i64 b.state, .int .i64 b.unt, .int .i64 b.price] 72)
      generalize wr.alloc (.cells #[.int .i64 b.name, .int .i64 b.who, .string b.own, .slice alg b.lgn clg, .int .i64 b.pe, .int .i64 b.len, .int .i64 b.hei, .int .i64 b.cl, .bool b.all, .int .i64 b.be, .int .i64 b.state, .int .i64 b.unt, .int .i64 b.price] 72) = Y at bB hbq hown1 ⊢
      generalize wr.heap.size = bbx at bB ⊢
      clear c0 c1 c2 c3 c4 c5 c6 c7 c8 c9 c10 c11 c12 hbel hbw hown
      refine (l7Live_any b alg clg _).mono ?_
      rintro e Y1 ⟨rfl, hby⟩
      have bB1 := blk_below bB hby
      have hbq1 := after hbq hby
      have hown2 := own_below hby hown1
      clear bB hbq hby hown1
      obtain ⟨t1, ht1⟩ : ∃ t, t = decide (Live b) := ⟨_, rfl⟩
      rw [← ht1]
      have HT1 : Hid (t1 = true ↔ Live b) := by show t1 = true ↔ Live b; rw [ht1, decide_eq_true_eq]
      clear ht1
      cases t1 with
      | false =>
        have HN : Hid (¬ OnZ (x.bk i) z) := fun h => by rw [← HBB.out] at h; have := HT1.out.2 h.1; cases this
        go_wp2
        go_roundw
        case rel => exact ⟨i + 1, r, by omega, by go_num, by rw [rowsL_no HN.out]; exact HRD.out, by rw [rowsL_no HN.out]; exact hown2, hbq1⟩
        case measure => simp [intOf]; omega
      | true =>
        have HLV : Hid (Live b) := HT1.out.1 rfl
        clear HT1
        have y3 := blk_cell bB1 3 _ rfl
        go_wp2_with fail
        refine (l1Has_any alg b.lgn clg b.lg z _ HBS.out.2 (HLG.out.below (after hb1 hbq1))).mono ?_
        rintro e Y2 ⟨⟨t2, rfl, ht2⟩, hw2⟩
        have hw2 := hw2.symm
        subst hw2
        have HT2 : Hid (t2 = true ↔ HasLeg b z) := ht2
        clear ht2 y3
        cases t2 with
        | false =>
          have HN : Hid (¬ OnZ (x.bk i) z) := fun h => by rw [← HBB.out] at h; have := HT2.out.2 h.2; cases this
          go_wp2
          go_roundw
          case rel => exact ⟨i + 1, r, by omega, by go_num, by rw [rowsL_no HN.out]; exact HRD.out, by rw [rowsL_no HN.out]; exact hown2, hbq1⟩
          case measure => simp [intOf]; omega
        | true =>
          have HON : Hid (OnZ (x.bk i) z) := by show OnZ (x.bk i) z; rw [← HBB.out]; exact ⟨HLV.out, HT2.out.1 rfl⟩
          clear HT2 HLV
          have y0 := blk_cell bB1 0 _ rfl
          have y2 := blk_cell bB1 2 _ rfl
          have y4 := blk_cell bB1 4 _ rfl
          have l0 : ∀ o, (Y1.alloc o).cell? ⟨B, 0, none⟩ = some (.slice ast l.stn cst) := fun o => blk_cell (blk_alloc (blk_below bL hbq1) o) 0 _ rfl
          go_wp2
          have bR := heap_alloc_new Y1 (.cells #[.int .i64 b.name, .string b.own, .int .i64 b.pe, .int .i64 (-1), .int .i64 (-1)] 116)
          have hbr : Below wc.heap.size wc (Y1.alloc (.cells #[.int .i64 b.name, .string b.own, .int .i64 b.pe, .int .i64 (-1), .int .i64 (-1)] 116)) := push hbq1 _
          have hown3 := hown2.alloc (.cells #[.int .i64 b.name, .string b.own, .int .i64 b.pe, .int .i64 (-1), .int .i64 (-1)] 116)
          have bB2 := blk_alloc bB1 (.cells #[.int .i64 b.name, .string b.own, .int .i64 b.pe, .int .i64 (-1), .int .i64 (-1)] 116)
          have hvb := fun g hg => And.right (World.ownsRow.lt hown2 g hg)
          have hY1 : wc.heap.size ≤ Y1.heap.size := hbq1.size
          have hbbx : bbx < Y1.heap.size := blk_lt bB1
          generalize Y1.alloc (.cells #[.int .i64 b.name, .string b.own, .int .i64 b.pe, .int .i64 (-1), .int .i64 (-1)] 116) = R0 at bR hbr hown3 bB2 ⊢
          generalize Y1.heap.size = rb at bR hY1 hbbx hvb ⊢
          clear y0 y2 y4 l0 hbq1 bB1 hown2
          have HVB : Hid _ := hvb
          clear hvb
          have hBw : B < wc.heap.size := blk_lt bL
          go_loopw [11, 50] (fun _ q wr => ∃ j : Nat, j ≤ l.stn ∧ q = .int .i64 j ∧ wr.heap[rb]? = some (.cells #[.int .i64 b.name, .string b.own, .int .i64 b.pe, .int .i64 (lastLn l.st b.who j), .int .i64 (-1)] 116 (0, 0)) ∧ Kept R0 wr (fun b => b = rb)) (fun _ q _ => l.stn - (intOf q).toNat)
          case atStart => exact ⟨0, Nat.zero_le _, rfl, bR, Kept.refl _ _⟩
          case round =>
            obtain ⟨j, hj, rfl, hR, hkp⟩ := hrel
            have hbx : Below wc.heap.size wc wr := Kept.below hbr hbr.size hkp (fun g e => by have e : g = rb := e; omega)
            have hbw := after hb1 hbx
            have bB3 := hkp.blk bB2 (by omega)
            by_cases hjl : j < l.stn
            · obtain ⟨sb, so, rfl, h0, h1, h2, h3⟩ := HST.out j hjl
              have lsb := World.block_lt_of_cell? w _ h0
              have c0 : wr.cell? ⟨sb, so + j * 4, none⟩ = some (.int .i64 (l.st j).who) := (hbw.cell (p := ⟨sb, so + j * 4, none⟩) lsb).trans h0
              have c1 : wr.cell? ⟨sb, so + j * 4 + 1, none⟩ = some (.int .i64 (l.st j).ln) := (hbw.cell (p := ⟨sb, so + j * 4 + 1, none⟩) lsb).trans h1
              have c2 : wr.cell? ⟨sb, so + j * 4 + 2, none⟩ = some (.int .i64 (l.st j).len) := (hbw.cell (p := ⟨sb, so + j * 4 + 2, none⟩) lsb).trans h2
              have c3 : wr.cell? ⟨sb, so + j * 4 + 3, none⟩ = some (.int .i64 (l.st j).hei) := (hbw.cell (p := ⟨sb, so + j * 4 + 3, none⟩) lsb).trans h3
              clear h0 h1 h2 h3
              have y1 : ∀ o, (wr.alloc o).cell? ⟨bbx, 1, none⟩ = some (.int .i64 b.who) := fun o => blk_cell (blk_alloc bB3 o) 1 _ rfl
              have r3 : ∀ o, (wr.alloc o).cell? ⟨rb, 3, none⟩ = some (.int .i64 (lastLn l.st b.who j)) := fun o => blk_cell (blk_alloc hR o) 3 _ rfl
              have g3 : ∀ o, (wr.alloc o).frozen? ⟨rb, 3, none⟩ = false := fun o => blk_free (blk_alloc hR o) 3
              have i1 : (0 : Int) ≤ (j : Int) := by omega
              have i2 : (j : Int) < (l.stn : Int) := by omega
              by_cases he : (l.st j).who = b.who
              · have e1 : ((l.st j).who == b.who) = true := by simpa using he
                have HE : Hid ((l.st j).who = b.who) := he
                clear he
                go_wp2
                go_roundw
                case rel => exact ⟨j + 1, by omega, by go_num, by rw [show lastLn l.st b.who (j + 1) = (l.st j).ln by rw [lastLn, if_pos HE.out]]; exact rowln_set (blk_alloc hR _) _, (hkp.trans (Kept.of_below (push (Below.refl _ _) _))).set (a := ⟨rb, 3, none⟩) rfl _⟩
                case measure => simp [intOf]; omega
              · have e1 : ((l.st j).who == b.who) = false := by simpa using he
                have HE : Hid (¬ (l.st j).who = b.who) := he
                clear he
                go_wp2
                go_roundw
                case rel => exact ⟨j + 1, by omega, by go_num, by rw [show lastLn l.st b.who (j + 1) = lastLn l.st b.who j by rw [lastLn, if_neg HE.out]]; exact blk_alloc hR _, hkp.trans (Kept.of_below (push (Below.refl _ _) _))⟩
                case measure => simp [intOf]; omega
            · obtain rfl : j = l.stn := by omega
              have l1 := blk_cell (blk_below bL hbx) 1 _ rfl
              clear hbx hbw bB3 bR hj hjl
              go_wp2
              clear l1
              have bR := hR
              have hkp0 := hkp
              clear hR hkp
              go_loopw [13, 66] (fun _ q wr => ∃ j : Nat, j ≤ l.ron ∧ q = .int .i64 j ∧ wr.heap[rb]? = some (.cells #[.int .i64 b.name, .string b.own, .int .i64 b.pe, .int .i64 (lastLn l.st b.who l.stn), .int .i64 (lastCab l.ro b.who j)] 116 (0, 0)) ∧ Kept R0 wr (fun b => b = rb)) (fun _ q _ => l.ron - (intOf q).toNat)
              case atStart => exact ⟨0, Nat.zero_le _, rfl, bR, hkp0⟩
              case round =>
                obtain ⟨j, hj, rfl, hR, hkp⟩ := hrel
                have hbx : Below wc.heap.size wc wr := Kept.below hbr hbr.size hkp (fun g e => by have e : g = rb := e; omega)
                have hbw := after hb1 hbx
                have bB3 := hkp.blk bB2 (by omega)
                by_cases hjl : j < l.ron
                · obtain ⟨sb, so, rfl, h0, h1, h2, h3⟩ := HRO.out j hjl
                  have lsb := World.block_lt_of_cell? w _ h0
                  have c0 : wr.cell? ⟨sb, so + j * 4, none⟩ = some (.int .i64 (l.ro j).who) := (hbw.cell (p := ⟨sb, so + j * 4, none⟩) lsb).trans h0
                  have c1 : wr.cell? ⟨sb, so + j * 4 + 1, none⟩ = some (.int .i64 (l.ro j).cab) := (hbw.cell (p := ⟨sb, so + j * 4 + 1, none⟩) lsb).trans h1
                  have c2 : wr.cell? ⟨sb, so + j * 4 + 2, none⟩ = some (.int .i64 (l.ro j).many) := (hbw.cell (p := ⟨sb, so + j * 4 + 2, none⟩) lsb).trans h2
                  have c3 : wr.cell? ⟨sb, so + j * 4 + 3, none⟩ = some (.bool (l.ro j).all) := (hbw.cell (p := ⟨sb, so + j * 4 + 3, none⟩) lsb).trans h3
                  clear h0 h1 h2 h3
                  have y1 : ∀ o, (wr.alloc o).cell? ⟨bbx, 1, none⟩ = some (.int .i64 b.who) := fun o => blk_cell (blk_alloc bB3 o) 1 _ rfl
                  have r3 : ∀ o, (wr.alloc o).cell? ⟨rb, 4, none⟩ = some (.int .i64 (lastCab l.ro b.who j)) := fun o => blk_cell (blk_alloc hR o) 4 _ rfl
                  have g3 : ∀ o, (wr.alloc o).frozen? ⟨rb, 4, none⟩ = false := fun o => blk_free (blk_alloc hR o) 4
                  have i1 : (0 : Int) ≤ (j : Int) := by omega
                  have i2 : (j : Int) < (l.ron : Int) := by omega
                  by_cases he : (l.ro j).who = b.who
                  · have e1 : ((l.ro j).who == b.who) = true := by simpa using he
                    have HE : Hid ((l.ro j).who = b.who) := he
                    clear he
                    go_wp2
                    go_roundw
                    case rel => exact ⟨j + 1, by omega, by go_num, by rw [show lastCab l.ro b.who (j + 1) = (l.ro j).cab by rw [lastCab, if_pos HE.out]]; exact rowcab_set (blk_alloc hR _) _, (hkp.trans (Kept.of_below (push (Below.refl _ _) _))).set (a := ⟨rb, 4, none⟩) rfl _⟩
                    case measure => simp [intOf]; omega
                  · have e1 : ((l.ro j).who == b.who) = false := by simpa using he
                    have HE : Hid (¬ (l.ro j).who = b.who) := he
                    clear he
                    go_wp2
                    go_roundw
                    case rel => exact ⟨j + 1, by omega, by go_num, by rw [show lastCab l.ro b.who (j + 1) = lastCab l.ro b.who j by rw [lastCab, if_neg HE.out]]; exact blk_alloc hR _, hkp.trans (Kept.of_below (push (Below.refl _ _) _))⟩
                    case measure => simp [intOf]; omega
                · obtain rfl : j = l.ron := by omega
                  have hown4 := hkp.own hown3 (fun g hg e => by have := HVB.out g hg; have e : g = rb := e; omega)
                  have r0 := blk_cell hR 0 _ rfl
                  have r1 := blk_cell hR 1 _ rfl
                  have r2 := blk_cell hR 2 _ rfl
                  have r3 := blk_cell hR 3 _ rfl
                  have r4 := blk_cell hR 4 _ rfl
                  have hsz := hbx.size
                  clear bB3 bB2 hbw bR hkp hkp0 hR hj hjl
                  have HNW : Hid (∀ ad, (some ⟨wr.heap.size, 0, none⟩ : Option Addr) = some ad → ∀ j u, ([.int .i64 b.name, .string b.own, .int .i64 b.pe, .int .i64 (lastLn l.st b.who l.stn), .int .i64 (lastCab l.ro b.who l.ron)] : List Value)[j]? = some u → (wr.alloc (.cells #[.int .i64 b.name, .string b.own, .int .i64 b.pe, .int .i64 (lastLn l.st b.who l.stn), .int .i64 (lastCab l.ro b.who l.ron)] 116)).cell? (ad.add j) = some u) := by
                    intro ad e
                    cases e
                    exact World.news_of_block (heap_alloc_new wr _)
                  go_wp2_with (first | (at_builtin; refine wpList_append_any _ (by rfl) (.tmp 79) (.tmp 81) 55 (by rfl) wc.heap.size 116 j0 (.agg #[.int .i64 0, .string ⟨#[]⟩, .int .i64 0, .int .i64 0, .int .i64 0]) 5 48 Tryz.underlying55 ji jz0 jz1 jz2 rfl (by decide) _ r (rowList (nthR (rowsL l x.bk z i)) r) (by rfl) (hown4.alloc _) (some ⟨wr.heap.size, 0, none⟩) 1 1 [.int .i64 b.name, .string b.own, .int .i64 b.pe, .int .i64 (lastLn l.st b.who l.stn), .int .i64 (lastCab l.ro b.who l.ron)] (by rfl) (fun h => (by cases h)) (by rfl) HNW.out (by intro u hu; simp at hu; rcases hu with rfl | rfl | rfl | rfl | rfl <;> rfl) (by unfold maxLen; omega) (by omega) (by simp; omega) ?_; intro v' w3 ho3 hg3))
                  go_roundw
                  case rel =>
                    refine ⟨i + 1, r + 1, by omega, by go_num, ?_, ?_, (push hbx _).grown hg3 (by simp; omega) (fun j hj => (hown4.lt j hj).1)⟩
                    · rw [rowsL_yes HON.out, List.length_append, ← HRD.out]; rfl
                    · have e := rowList_snoc (rowsL l x.bk z i) (rowOf l (x.bk i))
                      rw [← HRD.out] at e
                      rw [rowsL_yes HON.out, e, ← HBB.out]
                      exact ho3
                  case measure => simp [intOf]; omega
    · obtain rfl : i = x.bkn := by omega
      go_wp2
      go_ret
      exact ⟨⟨_, rfl, by rw [← HRD.out]; exact own_base hown hb1.size⟩, hbw⟩
end Go.Proofs.YtlelckbeoclhbaaGreat

namespace Go.Proofs.YtlelckbeoclhbaaGreat
open Go.RowKit
def pairRow (p : Pairs) : List Value := (List.range (p.n * 2)).map (pairCell p)
theorem pairRow_length (p : Pairs) : (pairRow p).length = p.n * 2 := by simp [pairRow]
theorem pairRow_get {p : Pairs} {j : Nat} {u : Value} (h : (pairRow p)[j]? = some u) : j < p.n * 2 ∧ u = pairCell p j := by
  unfold pairRow at h
  rw [List.getElem?_map] at h
  by_cases hj : j < p.n * 2
  · rw [List.getElem?_range hj] at h; simp at h; exact ⟨hj, h.symm⟩
  · rw [List.getElem?_eq_none (by simpa using hj)] at h; cases h
theorem pairRow_one (p : Pairs) : ∀ u ∈ pairRow p, u.oneCell' = true := by
  intro u hu
  unfold pairRow at hu
  obtain ⟨j, _, rfl⟩ := List.mem_map.1 hu
  unfold pairCell
  split <;> rfl
theorem pairs_cells {w : World} {ao : Option Addr} {p : Pairs} (h : PairsAt w ao p) : ∀ ad, ao = some ad → ∀ j u, (pairRow p)[j]? = some u → w.cell? (ad.add j) = some u := by
  intro ad e j u hu
  obtain ⟨hj, rfl⟩ := pairRow_get hu
  obtain ⟨b, off, e2, h0, h1⟩ := h (j / 2) (by omega)
  rw [e] at e2
  cases e2
  rw [Addr.add_lit]
  unfold pairCell
  by_cases c : j % 2 = 0
  · rw [if_pos c, ← h0, show off + j / 2 * 2 = off + j by omega]
  · rw [if_neg c, ← h1, show off + j / 2 * 2 + 1 = off + j by omega]
theorem pairs_of_own {w : World} {base t c : Nat} {ao : Option Addr} {p : Pairs} (h : w.ownsRow base t 2 (.slice ao p.n c) p.n (pairRow p)) : PairsAt w ao p := by
  intro k hk
  obtain ⟨g, rfl, _, _⟩ := own_addr h (by omega)
  refine ⟨g, 0, rfl, ?_, ?_⟩
  · rw [Nat.zero_add, own_cell h (k * 2) (by omega) rfl, pairCell_0]
  · rw [Nat.zero_add, own_cell h (k * 2 + 1) (by omega) rfl, pairCell_1]
structure OwnSails (w : World) (base : Nat) (v : Value) (N : Nat) (S : Nat → Sail) (L C : Nat → Value) : Prop where
  row : w.ownsRow base 54 8 v N ((List.range (N * 8)).map (sailCell S L C))
  la : ∀ i, i < N → w.ownsRow base 122 2 (L i) (S i).la.n (pairRow (S i).la)
  ca : ∀ i, i < N → w.ownsRow base 124 2 (C i) (S i).ca.n (pairRow (S i).ca)
  apart : ∀ i j, i < j → j < N → (∀ b, (L i).ownBlock = some b → (L j).ownBlock ≠ some b) ∧ (∀ b, (C i).ownBlock = some b → (C j).ownBlock ≠ some b)
theorem OwnSails.below {w w' : World} {base : Nat} {v : Value} {N : Nat} {S : Nat → Sail} {L C : Nat → Value} (h : OwnSails w base v N S L C) (hb : Below w.heap.size w w') : OwnSails w' base v N S L C :=
  ⟨own_below hb h.row, fun i hi => own_below hb (h.la i hi), fun i hi => own_below hb (h.ca i hi), h.apart⟩
theorem OwnSails.kept {w w' : World} {base : Nat} {v : Value} {N : Nat} {S : Nat → Sail} {L C : Nat → Value} {T : Nat → Prop} (h : OwnSails w base v N S L C) (hk : Kept w w' T) (hT : ∀ b, T b → b < base) : OwnSails w' base v N S L C :=
  ⟨hk.own h.row (fun g hg s => by have := (h.row.lt g hg).1; have := hT g s; omega), fun i hi => hk.own (h.la i hi) (fun g hg s => by have := ((h.la i hi).lt g hg).1; have := hT g s; omega),
    fun i hi => hk.own (h.ca i hi) (fun g hg s => by have := ((h.ca i hi).lt g hg).1; have := hT g s; omega), h.apart⟩
theorem OwnSails.base {w : World} {b1 b2 : Nat} {v : Value} {N : Nat} {S : Nat → Sail} {L C : Nat → Value} (h : OwnSails w b1 v N S L C) (hb : b2 ≤ b1) : OwnSails w b2 v N S L C :=
  ⟨own_base h.row hb, fun i hi => own_base (h.la i hi) hb, fun i hi => own_base (h.ca i hi) hb, h.apart⟩
theorem OwnSails.at {w : World} {base : Nat} {ao : Option Addr} {N c : Nat} {S : Nat → Sail} {L C : Nat → Value} (h : OwnSails w base (.slice ao N c) N S L C) : SailsAt w ao N S := by
  intro k hk
  obtain ⟨g, rfl, _, _⟩ := own_addr h.row (by omega)
  obtain ⟨la, lc, e1, l1, l2, l3⟩ := own_form (h.la k hk)
  obtain ⟨ca, cc, e2, c1, c2, c3⟩ := own_form (h.ca k hk)
  have o1 := h.la k hk
  have o2 := h.ca k hk
  rw [e1] at o1
  rw [e2] at o2
  refine ⟨g, 0, la, lc, ca, cc, rfl, ?_, ?_, ?_, ?_, ?_, ?_, ?_, ?_, pairs_of_own o1, pairs_of_own o2, ⟨l1, l2, l3⟩, ⟨c1, c2, c3⟩⟩
  · rw [Nat.zero_add, own_cell h.row (k * 8) (by omega) rfl, sailCell_0]
  · rw [Nat.zero_add, own_cell h.row (k * 8 + 1) (by omega) rfl, sailCell_1]
  · rw [Nat.zero_add, own_cell h.row (k * 8 + 2) (by omega) rfl, sailCell_2]
  · rw [Nat.zero_add, own_cell h.row (k * 8 + 3) (by omega) rfl, sailCell_3]
  · rw [Nat.zero_add, own_cell h.row (k * 8 + 4) (by omega) rfl, sailCell_4]
  · rw [Nat.zero_add, own_cell h.row (k * 8 + 5) (by omega) rfl, sailCell_5, e1]
  · rw [Nat.zero_add, own_cell h.row (k * 8 + 6) (by omega) rfl, sailCell_6, e2]
  · rw [Nat.zero_add, own_cell h.row (k * 8 + 7) (by omega) rfl, sailCell_7]
theorem OwnSails.nil (w : World) (base : Nat) (S : Nat → Sail) (L C : Nat → Value) : OwnSails w base (.slice none 0 0) 0 S L C :=
  ⟨⟨rfl, .inl ⟨rfl, rfl⟩⟩, fun i hi => by omega, fun i hi => by omega, fun i j hi hj => by omega⟩
end Go.Proofs.YtlelckbeoclhbaaGreat

namespace Go.Proofs.YtlelckbeoclhbaaGreat
open Go.RowKit
def ldC (A B C : Nat → Value) (k : Nat) : List Value := [A k, B k, C k]
def ldRow (A B C : Nat → Value) (N : Nat) : List Value := (List.range (N * 3)).map (recCell 3 (ldC A B C))
def FarV (N : Nat) (A : Nat → Value) : Prop := ∀ i j, i < N → j < N → i ≠ j → ∀ b, (A i).ownBlock = some b → (A j).ownBlock ≠ some b
structure OwnLds (w : World) (base : Nat) (v : Value) (N : Nat) (S : Nat → Load) (A B C : Nat → Value) : Prop where
  row : w.ownsRow base 62 3 v N (ldRow A B C N)
  st : ∀ i, i < N → w.ownsRow base 118 4 (A i) (S i).stn (stayList (S i).st (S i).stn)
  ro : ∀ i, i < N → w.ownsRow base 120 4 (B i) (S i).ron (roomList (S i).ro (S i).ron)
  se : ∀ i, i < N → w.ownsRow base 126 2 (C i) (S i).sen (seatList (S i).se (S i).sen)
  far : FarV N A ∧ FarV N B ∧ FarV N C
section
variable {w w' : World} {base : Nat} {v : Value} {N : Nat} {S : Nat → Load} {A B C : Nat → Value}
theorem OwnLds.below (h : OwnLds w base v N S A B C) (hb : Below w.heap.size w w') : OwnLds w' base v N S A B C :=
  ⟨own_below hb h.row, fun i hi => own_below hb (h.st i hi), fun i hi => own_below hb (h.ro i hi), fun i hi => own_below hb (h.se i hi), h.far⟩
theorem OwnLds.other {T : Nat → Prop} (h : OwnLds w base v N S A B C) (hk : Kept w w' T) (hT : ∀ b, T b → ∃ cs t, w.heap[b]? = some (.cells cs t (0, 0)) ∧ 62 ≠ t ∧ 118 ≠ t ∧ 120 ≠ t ∧ 126 ≠ t) : OwnLds w' base v N S A B C :=
  ⟨hk.own h.row (fun g hg s => by obtain ⟨cs, t, h1, h2, _⟩ := hT g s; exact own_notE h.row h1 h2 g hg rfl), fun i hi => hk.own (h.st i hi) (fun g hg s => by obtain ⟨cs, t, h1, _, h2, _⟩ := hT g s; exact own_notE (h.st i hi) h1 h2 g hg rfl),
    fun i hi => hk.own (h.ro i hi) (fun g hg s => by obtain ⟨cs, t, h1, _, _, h2, _⟩ := hT g s; exact own_notE (h.ro i hi) h1 h2 g hg rfl), fun i hi => hk.own (h.se i hi) (fun g hg s => by obtain ⟨cs, t, h1, _, _, _, h2⟩ := hT g s; exact own_notE (h.se i hi) h1 h2 g hg rfl), h.far⟩
theorem OwnLds.lower {b1 b2 : Nat} (h : OwnLds w b1 v N S A B C) (hb : b2 ≤ b1) : OwnLds w b2 v N S A B C :=
  ⟨own_base h.row hb, fun i hi => own_base (h.st i hi) hb, fun i hi => own_base (h.ro i hi) hb, fun i hi => own_base (h.se i hi) hb, h.far⟩
theorem OwnLds.nil (w : World) (base : Nat) (S : Nat → Load) (A B C : Nat → Value) : OwnLds w base (.slice none 0 0) 0 S A B C :=
  ⟨⟨rfl, .inl ⟨rfl, rfl⟩⟩, fun i hi => by omega, fun i hi => by omega, fun i hi => by omega, fun i j hi => by omega, fun i j hi => by omega, fun i j hi => by omega⟩
theorem OwnLds.is (h : OwnLds w base v N S A B C) {k : Nat} (hk : k < N) : Load.Is w (ldC A B C k) (S k) := by
  obtain ⟨a1, c1, e1, x1, y1, z1⟩ := own_form (h.st k hk)
  obtain ⟨a2, c2, e2, x2, y2, z2⟩ := own_form (h.ro k hk)
  obtain ⟨a3, c3, e3, x3, y3, z3⟩ := own_form (h.se k hk)
  have o1 := h.st k hk
  have o2 := h.ro k hk
  have o3 := h.se k hk
  rw [e1] at o1
  rw [e2] at o2
  rw [e3] at o3
  unfold maxLen at y1 y2 y3
  exact ⟨a1, c1, a2, c2, a3, c3, by unfold ldC; rw [e1, e2, e3], stays_of_own o1, ⟨x1, by omega, z1⟩, rooms_of_own o2, ⟨x2, by omega, z2⟩, seats_of_own o3, ⟨x3, by omega, z3⟩⟩
theorem OwnLds.at {ao : Option Addr} {c : Nat} (h : OwnLds w base (.slice ao N c) N S A B C) : LoadsAt w ao N S := by
  refine ⟨ldC A B C, fun k hk => ?_, fun k hk => h.is hk⟩
  obtain ⟨g, rfl, _, _⟩ := own_addr h.row (by omega)
  refine ⟨g, 0, rfl, fun j hj => ?_⟩
  rw [Nat.zero_add, own_cell h.row (k * 3 + j) (by omega) rfl, recCell_at 3 _ k j hj]
theorem FarV.snoc {A : Nat → Value} {k lim : Nat} {a : Value} (h : FarV k A) (h1 : ∀ i, i < k → ∀ b, (A i).ownBlock = some b → b < lim) (h2 : ∀ b, a.ownBlock = some b → lim ≤ b) : FarV (k + 1) (atV A k a) := fun i j hi hj hne b e1 e2 => by
  by_cases ei : i = k
  · subst ei
    rw [atV_at] at e1
    rw [atV_ne _ _ _ _ (fun h => hne h.symm)] at e2
    have := h1 j (by omega) b e2
    have := h2 b e1
    omega
  · rw [atV_ne _ _ _ _ ei] at e1
    by_cases ej : j = k
    · subst ej
      rw [atV_at] at e2
      have := h1 i (by omega) b e1
      have := h2 b e2
      omega
    · rw [atV_ne _ _ _ _ ej] at e2
      exact h i j (by omega) (by omega) hne b e1 e2
theorem OwnLds.snoc {k : Nat} {v' a b c : Value} {lim : Nat} (h : OwnLds w base v k S A B C) (hlim : ∀ i, i < k → (∀ g, (A i).ownBlock = some g → g < lim) ∧ (∀ g, (B i).ownBlock = some g → g < lim) ∧ (∀ g, (C i).ownBlock = some g → g < lim))
    (h1 : w.ownsRow lim 118 4 a (S k).stn (stayList (S k).st (S k).stn)) (h2 : w.ownsRow lim 120 4 b (S k).ron (roomList (S k).ro (S k).ron)) (h3 : w.ownsRow lim 126 2 c (S k).sen (seatList (S k).se (S k).sen)) (hbl : base ≤ lim) (hg : w.grownBy w' v.ownBlock)
    (ho : w'.ownsRow base 62 3 v' (k + 1) (ldRow A B C k ++ [a, b, c])) : OwnLds w' base v' (k + 1) S (atV A k a) (atV B k b) (atV C k c) := by
  have hk := kept_row hg
  have far : ∀ {t sz n : Nat} {u : Value} {xs : List Value}, w.ownsRow base t sz u n xs → 62 ≠ t → w'.ownsRow base t sz u n xs := fun ho ht => hk.own ho (fun g hg1 hg2 => own_apart h.row ho ht g hg2 hg1)
  refine ⟨?_, fun i hi => ?_, fun i hi => ?_, fun i hi => ?_, h.far.1.snoc (fun i hi => (hlim i hi).1) (fun b e => (h1.lt b e).1), h.far.2.1.snoc (fun i hi => (hlim i hi).2.1) (fun b e => (h2.lt b e).1), h.far.2.2.snoc (fun i hi => (hlim i hi).2.2) (fun b e => (h3.lt b e).1)⟩
  · have e : ldRow (atV A k a) (atV B k b) (atV C k c) (k + 1) = ldRow A B C k ++ [a, b, c] := rec_row_snoc 3 (by decide) (ldC A B C) (ldC (atV A k a) (atV B k b) (atV C k c)) k _ rfl (fun i hi => by unfold ldC; rw [atV_ne _ _ _ _ (by omega), atV_ne _ _ _ _ (by omega), atV_ne _ _ _ _ (by omega)]) (by unfold ldC; rw [atV_at, atV_at, atV_at])
    rw [e]
    exact ho
  · by_cases e : i = k
    · subst e; rw [atV_at]; exact far (own_base h1 hbl) (by decide)
    · rw [atV_ne _ _ _ _ e]; exact far (h.st i (by omega)) (by decide)
  · by_cases e : i = k
    · subst e; rw [atV_at]; exact far (own_base h2 hbl) (by decide)
    · rw [atV_ne _ _ _ _ e]; exact far (h.ro i (by omega)) (by decide)
  · by_cases e : i = k
    · subst e; rw [atV_at]; exact far (own_base h3 hbl) (by decide)
    · rw [atV_ne _ _ _ _ e]; exact far (h.se i (by omega)) (by decide)
end
end Go.Proofs.YtlelckbeoclhbaaGreat

namespace Go.Proofs.YtlelckbeoclhbaaGreat
open Go.RowKit
theorem sailRow_snoc (S : Nat → Sail) (L C : Nat → Value) (k : Nat) (lv cv : Value) :
    (List.range ((k + 1) * 8)).map (sailCell S (atV L k lv) (atV C k cv)) = (List.range (k * 8)).map (sailCell S L C) ++ [.int .i64 (S k).id, .string (S k).fr, .string (S k).dst, .int .i64 (S k).dep, .int .i64 (S k).arr, lv, cv, .int .i64 (S k).most] := by
  rw [show (k + 1) * 8 = k * 8 + 1 + 1 + 1 + 1 + 1 + 1 + 1 + 1 by omega, List.range_succ, List.range_succ, List.range_succ, List.range_succ, List.range_succ, List.range_succ, List.range_succ, List.range_succ]
  simp only [List.map_append, List.map_cons, List.map_nil, List.append_assoc, List.cons_append, List.nil_append]
  rw [sailCell_0, sailCell_1, show k * 8 + 1 + 1 = k * 8 + 2 by omega, sailCell_2, show k * 8 + 2 + 1 = k * 8 + 3 by omega, sailCell_3, show k * 8 + 3 + 1 = k * 8 + 4 by omega, sailCell_4, show k * 8 + 4 + 1 = k * 8 + 5 by omega, sailCell_5, show k * 8 + 5 + 1 = k * 8 + 6 by omega, sailCell_6, show k * 8 + 6 + 1 = k * 8 + 7 by omega, sailCell_7, atV_at, atV_at]
  congr 1
  refine List.map_congr_left fun j hj => ?_
  have hj' : j < k * 8 := by simpa using hj
  unfold sailCell
  rw [atV_ne _ _ _ _ (show j / 8 ≠ k by omega), atV_ne _ _ _ _ (show j / 8 ≠ k by omega)]
theorem OwnSails.snoc {w w' : World} {base k : Nat} {v v' : Value} {S : Nat → Sail} {L C : Nat → Value} {lv cv : Value} {lim : Nat} (h : OwnSails w base v k S L C) (hlim : ∀ i, i < k → (∀ b, (L i).ownBlock = some b → b < lim) ∧ (∀ b, (C i).ownBlock = some b → b < lim))
    (hl : w.ownsRow lim 122 2 lv (S k).la.n (pairRow (S k).la)) (hc : w.ownsRow lim 124 2 cv (S k).ca.n (pairRow (S k).ca)) (hbl : base ≤ lim) (hg : w.grownBy w' v.ownBlock)
    (ho : w'.ownsRow base 54 8 v' (k + 1) ((List.range (k * 8)).map (sailCell S L C) ++ [.int .i64 (S k).id, .string (S k).fr, .string (S k).dst, .int .i64 (S k).dep, .int .i64 (S k).arr, lv, cv, .int .i64 (S k).most])) :
    OwnSails w' base v' (k + 1) S (atV L k lv) (atV C k cv) := by
  have hk := kept_row hg
  refine ⟨by rw [sailRow_snoc]; exact ho, fun i hi => ?_, fun i hi => ?_, fun i j hij hj => ?_⟩
  · by_cases e : i = k
    · subst e; rw [atV_at]; exact hk.own (own_base hl hbl) (fun g hg1 hg2 => own_apart h.row (own_base hl hbl) (by decide) g hg2 hg1)
    · rw [atV_ne _ _ _ _ e]; exact hk.own (h.la i (by omega)) (fun g hg1 hg2 => own_apart h.row (h.la i (by omega)) (by decide) g hg2 hg1)
  · by_cases e : i = k
    · subst e; rw [atV_at]; exact hk.own (own_base hc hbl) (fun g hg1 hg2 => own_apart h.row (own_base hc hbl) (by decide) g hg2 hg1)
    · rw [atV_ne _ _ _ _ e]; exact hk.own (h.ca i (by omega)) (fun g hg1 hg2 => own_apart h.row (h.ca i (by omega)) (by decide) g hg2 hg1)
  · by_cases e : j = k
    · subst e
      rw [atV_at, atV_at, atV_ne _ _ _ _ (by omega), atV_ne _ _ _ _ (by omega)]
      refine ⟨fun b h1 h3 => ?_, fun b h1 h3 => ?_⟩
      · have a := (hlim i hij).1 b h1
        have c := (hl.lt b h3).1
        omega
      · have a := (hlim i hij).2 b h1
        have c := (hc.lt b h3).1
        omega
    · rw [atV_ne _ _ _ _ e, atV_ne _ _ _ _ e, atV_ne _ _ _ _ (by omega), atV_ne _ _ _ _ (by omega)]
      exact h.apart i j hij (by omega)
theorem OwnSails.keptRow {w w' : World} {base base2 k n : Nat} {v lv : Value} {S : Nat → Sail} {L C : Nat → Value} {xs : List Value} (h : OwnSails w base v k S L C) (hl : w.ownsRow base2 62 3 lv n xs) (hg : w.grownBy w' lv.ownBlock) : OwnSails w' base v k S L C := by
  have hk := kept_row hg
  exact ⟨hk.own h.row (fun g h1 h2 => own_apart hl h.row (by decide) g h2 h1), fun i hi => hk.own (h.la i hi) (fun g h1 h2 => own_apart hl (h.la i hi) (by decide) g h2 h1), fun i hi => hk.own (h.ca i hi) (fun g h1 h2 => own_apart hl (h.ca i hi) (by decide) g h2 h1), h.apart⟩
theorem off_at0 {w : World} {g t : Nat} {u0 u1 u2 : Value} (h : w.heap[g]? = some (.cells #[u0, u1, u2] t (0, 0))) (v : Value) : (w.setCell ⟨g, 0, none⟩ v).heap[g]? = some (.cells #[v, u1, u2] t (0, 0)) := by simpa using blk_set h 0 v
theorem off_at1 {w : World} {g t : Nat} {u0 u1 u2 : Value} (h : w.heap[g]? = some (.cells #[u0, u1, u2] t (0, 0))) (v : Value) : (w.setCell ⟨g, 1, none⟩ v).heap[g]? = some (.cells #[u0, v, u2] t (0, 0)) := by simpa using blk_set h 1 v
theorem off_at2 {w : World} {g t : Nat} {u0 u1 u2 : Value} (h : w.heap[g]? = some (.cells #[u0, u1, u2] t (0, 0))) (v : Value) : (w.setCell ⟨g, 2, none⟩ v).heap[g]? = some (.cells #[u0, u1, v] t (0, 0)) := by simpa using blk_set h 2 v
theorem own_blockE {w : World} {base e size n : Nat} {v : Value} {xs : List Value} (h : w.ownsRow base e size v n xs) : ∀ g, v.ownBlock = some g → ∃ cs, w.heap[g]? = some (.cells cs e (0, 0)) := fun g hg => by
  rcases h.2 with ⟨rfl, _⟩ | ⟨g', c, cur, rfl, _, hb, _⟩
  · cases hg
  · simp [Value.ownBlock] at hg
    subst hg
    exact ⟨cur, hb⟩
theorem OwnSails.other {w w' : World} {base : Nat} {v : Value} {N : Nat} {S : Nat → Sail} {L C : Nat → Value} {T : Nat → Prop} (h : OwnSails w base v N S L C) (hk : Kept w w' T) (hT : ∀ b, T b → ∃ cs t, w.heap[b]? = some (.cells cs t (0, 0)) ∧ 54 ≠ t ∧ 122 ≠ t ∧ 124 ≠ t) : OwnSails w' base v N S L C :=
  ⟨hk.own h.row (fun g hg s => by obtain ⟨cs, t, h1, h2, _⟩ := hT g s; exact own_notE h.row h1 h2 g hg rfl), fun i hi => hk.own (h.la i hi) (fun g hg s => by obtain ⟨cs, t, h1, _, h2, _⟩ := hT g s; exact own_notE (h.la i hi) h1 h2 g hg rfl),
    fun i hi => hk.own (h.ca i hi) (fun g hg s => by obtain ⟨cs, t, h1, _, _, h2⟩ := hT g s; exact own_notE (h.ca i hi) h1 h2 g hg rfl), h.apart⟩
structure OwnOff (w : World) (base : Nat) (v1 v2 v3 : Value) (n1 n2 n3 : Nat) (x : Off) (L C A B D E : Nat → Value) : Prop where
  sa : OwnSails w base v1 n1 x.sa L C
  ld : OwnLds w base v2 n2 x.ld A B D
  bk : OwnBks w base v3 n3 x.bk E
section
variable {w w' : World} {base : Nat} {v1 v2 v3 : Value} {n1 n2 n3 : Nat} {x : Off} {L C A B D E : Nat → Value}
theorem OwnOff.below (h : OwnOff w base v1 v2 v3 n1 n2 n3 x L C A B D E) (hb : Below w.heap.size w w') : OwnOff w' base v1 v2 v3 n1 n2 n3 x L C A B D E := ⟨h.sa.below hb, h.ld.below hb, h.bk.below hb⟩
theorem OwnOff.lower {b1 b2 : Nat} (h : OwnOff w b1 v1 v2 v3 n1 n2 n3 x L C A B D E) (hb : b2 ≤ b1) : OwnOff w b2 v1 v2 v3 n1 n2 n3 x L C A B D E := ⟨h.sa.base hb, h.ld.lower hb, h.bk.lower hb⟩
theorem OwnOff.box {g t : Nat} {cs : Array Value} (h : OwnOff w base v1 v2 v3 n1 n2 n3 x L C A B D E) (hk : Kept w w' (fun b => b = g)) (hg : w.heap[g]? = some (.cells cs t (0, 0))) (ht : 54 ≠ t ∧ 122 ≠ t ∧ 124 ≠ t ∧ 62 ≠ t ∧ 118 ≠ t ∧ 120 ≠ t ∧ 126 ≠ t ∧ 72 ≠ t ∧ 3 ≠ t) : OwnOff w' base v1 v2 v3 n1 n2 n3 x L C A B D E :=
  ⟨h.sa.other hk (fun b e => by have e : b = g := e; subst e; exact ⟨cs, t, hg, ht.1, ht.2.1, ht.2.2.1⟩), h.ld.other hk (fun b e => by have e : b = g := e; subst e; exact ⟨cs, t, hg, ht.2.2.2.1, ht.2.2.2.2.1, ht.2.2.2.2.2.1, ht.2.2.2.2.2.2.1⟩), h.bk.other hk (fun b e => by have e : b = g := e; subst e; exact ⟨cs, t, hg, ht.2.2.2.2.2.2.2.1, ht.2.2.2.2.2.2.2.2⟩)⟩
theorem OwnOff.load {v' a b c : Value} {k lim : Nat} (h : OwnOff w base v1 v2 v3 n1 k n3 x L C A B D E) (hlim : ∀ i, i < k → (∀ g, (A i).ownBlock = some g → g < lim) ∧ (∀ g, (B i).ownBlock = some g → g < lim) ∧ (∀ g, (D i).ownBlock = some g → g < lim))
    (h1 : w.ownsRow lim 118 4 a (x.ld k).stn (stayList (x.ld k).st (x.ld k).stn)) (h2 : w.ownsRow lim 120 4 b (x.ld k).ron (roomList (x.ld k).ro (x.ld k).ron)) (h3 : w.ownsRow lim 126 2 c (x.ld k).sen (seatList (x.ld k).se (x.ld k).sen)) (hbl : base ≤ lim) (hg : w.grownBy w' v2.ownBlock)
    (ho : w'.ownsRow base 62 3 v' (k + 1) (ldRow A B D k ++ [a, b, c])) : OwnOff w' base v1 v' v3 n1 (k + 1) n3 x L C (atV A k a) (atV B k b) (atV D k c) E :=
  ⟨h.sa.other (kept_row hg) (fun g e => by obtain ⟨cs, e2⟩ := own_blockE h.ld.row g e; exact ⟨cs, _, e2, by decide, by decide, by decide⟩), h.ld.snoc hlim h1 h2 h3 hbl hg ho, h.bk.other (kept_row hg) (fun g e => by obtain ⟨cs, e2⟩ := own_blockE h.ld.row g e; exact ⟨cs, _, e2, by decide, by decide⟩)⟩
theorem OwnOff.book {v' lv : Value} {k lim : Nat} (h : OwnOff w base v1 v2 v3 n1 n2 k x L C A B D E) (hlim : ∀ i, i < k → ∀ b, (E i).ownBlock = some b → b < lim)
    (hl : w.ownsRow lim 3 1 lv (x.bk k).lgn (intList (x.bk k).lg (x.bk k).lgn)) (hbl : base ≤ lim) (hg : w.grownBy w' v3.ownBlock)
    (ho : w'.ownsRow base 72 13 v' (k + 1) (bkRow x.bk E k ++ bkC x.bk (atV E k lv) k)) : OwnOff w' base v1 v2 v' n1 n2 (k + 1) x L C A B D (atV E k lv) :=
  ⟨h.sa.other (kept_row hg) (fun g e => by obtain ⟨cs, e2⟩ := own_blockE h.bk.row g e; exact ⟨cs, _, e2, by decide, by decide, by decide⟩), h.ld.other (kept_row hg) (fun g e => by obtain ⟨cs, e2⟩ := own_blockE h.bk.row g e; exact ⟨cs, _, e2, by decide, by decide, by decide, by decide⟩), h.bk.snoc hlim hl hbl hg ho⟩
theorem OwnOff.is {a1 a2 a3 : Option Addr} {c1 c2 c3 : Nat} (h : OwnOff w base (.slice a1 x.san c1) (.slice a2 x.ldn c2) (.slice a3 x.bkn c3) x.san x.ldn x.bkn x L C A B D E) : Off.Is w [.slice a1 x.san c1, .slice a2 x.ldn c2, .slice a3 x.bkn c3] x := by
  obtain ⟨_, _, e1, p1, q1, r1⟩ := own_form h.sa.row
  obtain ⟨_, _, e2, p2, q2, r2⟩ := own_form h.ld.row
  obtain ⟨_, _, e3, p3, q3, r3⟩ := own_form h.bk.row
  simp only [Value.slice.injEq] at e1 e2 e3
  obtain ⟨rfl, _, rfl⟩ := e1
  obtain ⟨rfl, _, rfl⟩ := e2
  obtain ⟨rfl, _, rfl⟩ := e3
  unfold maxLen at q1 q2 q3
  exact ⟨a1, c1, a2, c2, a3, c3, rfl, h.sa.at, ⟨p1, by omega, r1⟩, h.ld.at, ⟨p2, by omega, r2⟩, h.bk.at, ⟨p3, by omega, r3⟩⟩
end
end Go.Proofs.YtlelckbeoclhbaaGreat
