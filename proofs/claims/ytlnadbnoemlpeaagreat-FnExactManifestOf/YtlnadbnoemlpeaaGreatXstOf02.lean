/-
  OWN TEXT: InfoMRow, SpecRows.
-/
import Derived.Test.YtlnadbnoemlpeaaGreatRows
import Derived.Deep.RegionHeld3
import Derived.Test.YtlnadbnoemlpeaaGreatXstOf01
import Derived.Test.YtlnadbnoemlpeaaGreatB26
import Derived.Test.YtlnadbnoemlpeaaGreatB29
import Derived.Test.YtlnadbnoemlpeaaGreatB28
import Derived.Test.YtlnadbnoemlpeaaGreatB16
namespace Go.Proofs.YtlnadbnoemlpeaaGreat
open Go.RowKit

theorem Tryz.infoRow : (Tryz.prog.info? 89).map (fun i => (i.zero, i.size, i.bytes)) = some (some (.agg #[.int .i64 0, .string ⟨#[]⟩, .int .i64 0, .int .i64 0, .int .i64 0]), 5, 48) := by kernel_rfl

end Go.Proofs.YtlnadbnoemlpeaaGreat

namespace Go.Proofs.YtlnadbnoemlpeaaGreat
open Go.RowKit

theorem setV {n : Nat} {w w' : World} (h : Below n w w') {g o : Nat} (hg : n ≤ g) (v : Value) : Below n w (w'.setCell ⟨g, o, none⟩ v) := h.setCell (p := ⟨g, o, none⟩) hg v
theorem rec3W {w : World} {g t : Nat} {u0 u1 u2 : Value} (h : w.heap[g]? = some (.cells #[u0, u1, u2] t (0, 0))) (v0 v1 v2 : Value) :
    (((w.setCell ⟨g, 0, none⟩ v0).setCell ⟨g, 1, none⟩ v1).setCell ⟨g, 2, none⟩ v2).heap[g]? = some (.cells #[v0, v1, v2] t (0, 0)) := by
  have a : (w.setCell ⟨g, 0, none⟩ v0).heap[g]? = some (.cells #[v0, u1, u2] t (0, 0)) := by simpa using blk_set h 0 v0
  have b : ((w.setCell ⟨g, 0, none⟩ v0).setCell ⟨g, 1, none⟩ v1).heap[g]? = some (.cells #[v0, v1, u2] t (0, 0)) := by simpa using blk_set a 1 v1
  simpa using blk_set b 2 v2
theorem rowln_set {w : World} {g t : Nat} {u0 u1 u2 u3 u4 : Value} (h : w.heap[g]? = some (.cells #[u0, u1, u2, u3, u4] t (0, 0))) (v : Value) : (w.setCell ⟨g, 3, none⟩ v).heap[g]? = some (.cells #[u0, u1, u2, v, u4] t (0, 0)) := by simpa using blk_set h 3 v
theorem rowcab_set {w : World} {g t : Nat} {u0 u1 u2 u3 u4 : Value} (h : w.heap[g]? = some (.cells #[u0, u1, u2, u3, u4] t (0, 0))) (v : Value) : (w.setCell ⟨g, 4, none⟩ v).heap[g]? = some (.cells #[u0, u1, u2, u3, v] t (0, 0)) := by simpa using blk_set h 4 v

set_option maxHeartbeats 12800000 in
set_option maxRecDepth 100000 in
theorem specRows_raw (x : Off) (asa ald abk : Option Addr) (csa cld cbk k : Nat) (z : Int) (w : World) (hs : Off.Short x 1048576) (hsa : SailsAt w asa x.san x.sa) (hld : LoadsAt w ald x.ldn x.ld) (hbk : BooksAt w abk x.bkn x.bk) (hcb : x.bkn ≤ 30) (hkd : findIx x.sa z x.san = k) (hlt : k < x.san) (hm1 : x.ldn = x.san) :
    Calls Tryz.prog 45 #[.agg #[.slice asa x.san csa, .slice ald x.ldn cld, .slice abk x.bkn cbk], .int .i64 z] w fun e w' => (∃ v, e = .returned v ∧ w'.ownsRow w.heap.size 89 5 v (rowsL (x.ld k) x.bk z x.bkn).length (rowList (nthR (rowsL (x.ld k) x.bk z x.bkn)) (rowsL (x.ld k) x.bk z x.bkn).length)) ∧ Below w.heap.size w w' := by
  obtain ⟨j0, ji, jz0, jz1, jz2⟩ := info_parts Tryz.infoRow
  have HSA : Hid (SailsAt w asa x.san x.sa) := hsa
  have HBK : Hid (BooksAt w abk x.bkn x.bk) := hbk
  have HSH : Hid (Off.Short x 1048576) := hs
  have n1 : x.san ≤ 1048576 := hs.1.1
  have HKD : Hid (findIx x.sa z x.san = k) := hkd
  obtain ⟨C, hC, hI⟩ := hld
  obtain ⟨lb, lo, rfl, hc⟩ := hC k (by omega)
  obtain ⟨l, hld⟩ : ∃ l, l = x.ld k := ⟨_, rfl⟩
  obtain ⟨ast, cst, aro, cro, ase, cse, eC, hst, sst, hro, sro, hse, sse⟩ := hI k (by omega)
  rw [← hld] at eC hst sst hro sro hse sse
  have hsh := hs.2.1.2 k (by omega)
  rw [← hld] at hsh
  have n2 : l.stn ≤ 1048576 := hsh.1
  have n3 : l.ron ≤ 1048576 := hsh.2.1
  rw [← hld]
  have HST : Hid (StaysAt w ast l.stn l.st) := hst
  have HRO : Hid (RoomsAt w aro l.ron l.ro) := hro
  have llb : lb < w.heap.size := World.block_lt_of_cell? w _ (hc 0 (by decide))
  have hk0 : (0 : Int) ≤ (k : Int) := by omega
  have hk1 : (k : Int) < (x.ldn : Int) := by omega
  have HLD : Hid (w.cell? ⟨lb, lo + k * 3, none⟩ = some (.slice ast l.stn cst) ∧ w.cell? ⟨lb, lo + k * 3 + 1, none⟩ = some (.slice aro l.ron cro) ∧ w.cell? ⟨lb, lo + k * 3 + 2, none⟩ = some (.slice ase l.sen cse)) :=
    ⟨by have := hc 0 (by decide); rw [eC] at this; exact this, by have := hc 1 (by decide); rw [eC] at this; exact this, by have := hc 2 (by decide); rw [eC] at this; exact this⟩
  have HC3 : Hid (∀ w', Below w.heap.size w w' → Calls Tryz.prog 44 #[.slice asa x.san csa, .int .i64 z] w' fun e w2 => e = .returned (.int .i64 k) ∧ Below w'.heap.size w' w2) := fun w' h =>
    (l3At_any asa x.san csa x.sa z w' n1 (HSA.out.below h)).mono fun e w2 ⟨a, b⟩ => ⟨by
      rw [HKD.out] at a
      rcases a with ⟨_, rfl⟩ | ⟨h, _⟩
      · rfl
      · omega, b⟩
  have hb0 : Below w.heap.size w (w.alloc (.cells #[.slice asa x.san csa, .slice (some ⟨lb, lo, none⟩) x.ldn cld, .slice abk x.bkn cbk] 33)) := push (Below.refl _ _) _
  have bO := heap_alloc_new w (.cells #[.slice asa x.san csa, .slice (some ⟨lb, lo, none⟩) x.ldn cld, .slice abk x.bkn cbk] 33)
  clear hsa hbk hs hkd hC hI hc eC hst sst hro sro hse sse hsh hld hm1
  go_enter Tryz.func45, Tryz.ntmps45
  go_upto_region 1 with fail
  generalize w.alloc (.cells #[.slice asa x.san csa, .slice (some ⟨lb, lo, none⟩) x.ldn cld, .slice abk x.bkn cbk] 33) = V at hb0 bO ⊢
  have hVs := hb0.size
  have BW : Hid (∀ w', Below V.heap.size V w' → Below w.heap.size w w') := fun w' h => after hb0 h
  have bOl := blk_lt bO
  have KS : Hid (∀ w', Below V.heap.size V w' → (w'.cell? ⟨w.heap.size, 0, none⟩ = some (.slice asa x.san csa) ∧ w'.cell? ⟨w.heap.size, 1, none⟩ = some (.slice (some ⟨lb, lo, none⟩) x.ldn cld) ∧ w'.cell? ⟨lb, lo + k * 3, none⟩ = some (.slice ast l.stn cst) ∧ w'.cell? ⟨lb, lo + k * 3 + 1, none⟩ = some (.slice aro l.ron cro) ∧ w'.cell? ⟨lb, lo + k * 3 + 2, none⟩ = some (.slice ase l.sen cse))) := fun w' h => by
    have g1 := blk_below bO h
    have g2 := after hb0 h
    exact ⟨blk_cell g1 0 _ rfl, blk_cell g1 1 _ rfl, (g2.cell (p := ⟨lb, lo + k * 3, none⟩) llb).trans HLD.out.1, (g2.cell (p := ⟨lb, lo + k * 3 + 1, none⟩) llb).trans HLD.out.2.1, (g2.cell (p := ⟨lb, lo + k * 3 + 2, none⟩) llb).trans HLD.out.2.2⟩
  go_cut [5] (fun s5 wc => ∃ B, s5 = .pointer (some ⟨B, 0, none⟩) ∧ wc.heap[B]? = some (.cells #[.slice ast l.stn cst, .slice aro l.ron cro, .slice ase l.sen cse] 61 (0, 0)) ∧ Below V.heap.size V wc)
  case first =>
    go_region_held3 (fun w' => w'.cell? ⟨w.heap.size, 0, none⟩ = some (.slice asa x.san csa) ∧ w'.cell? ⟨w.heap.size, 1, none⟩ = some (.slice (some ⟨lb, lo, none⟩) x.ldn cld) ∧ w'.cell? ⟨lb, lo + k * 3, none⟩ = some (.slice ast l.stn cst) ∧ w'.cell? ⟨lb, lo + k * 3 + 1, none⟩ = some (.slice aro l.ron cro) ∧ w'.cell? ⟨lb, lo + k * 3 + 2, none⟩ = some (.slice ase l.sen cse))
      ((refine KS.out _ ?_; exact (by repeat (first | exact Below.refl _ _ | refine Below.drew ?_ | refine push ?_ _ | refine setV ?_ (by omega) _ | refine after ?_ hb4))))
      (first | (go_at_call 44; refine Calls.mono (HC3.out _ (BW.out _ (by repeat (first | exact Below.refl _ _ | refine Below.drew ?_ | refine push ?_ _ | refine setV ?_ (by omega) _ | refine after ?_ hb4)))) ?_; rintro e w4 ⟨rfl, hb4⟩; have s4 : V.heap.size ≤ w4.heap.size := (by have := hb4.size; first | omega | (simp at this; omega)); (first | (have hby : w4.heap[V.heap.size]? = some (.cells #[.slice none 0 0, .slice none 0 0, .slice none 0 0] 61 (0, 0)) := blk_below (heap_alloc_new V.drew (.cells #[.slice none 0 0, .slice none 0 0, .slice none 0 0] 61)) hb4; have y0 := blk_cell hby 0 _ rfl; have y1 := blk_cell hby 1 _ rfl; have y2 := blk_cell hby 2 _ rfl; have f0 := blk_free hby 0; have f1 := blk_free hby 1; have f2 := blk_free hby 2) | skip)))
    all_goals
      go_wp2
      go_meet
      first | exact ⟨_, rfl, heap_alloc_new w4 _, (by repeat (first | exact Below.refl _ _ | refine Below.drew ?_ | refine push ?_ _ | refine setV ?_ (by omega) _ | refine after ?_ hb4))⟩ | exact ⟨_, rfl, rec3W hby _ _ _, (by repeat (first | exact Below.refl _ _ | refine Below.drew ?_ | refine push ?_ _ | refine setV ?_ (by omega) _ | refine after ?_ hb4))⟩
  case rest =>
  obtain ⟨B, rfl, bL, hbc⟩ := hcut
  have bO1 := blk_below bO hbc
  have hb1 := after hb0 hbc
  clear bO hb0 hbc KS BW HC3 HLD bOl hVs
  have z2 := blk_cell bO1 2 _ rfl
  go_wp2
  clear z2
  go_loopw [6, 8, 9, 11, 13, 25] (fun v _ _ _ _ q wr => ∃ (i r : Nat), i ≤ x.bkn ∧ q = .int .i64 i ∧ r = (rowsL l x.bk z i).length ∧ wr.ownsRow wc.heap.size 89 5 v r (rowList (nthR (rowsL l x.bk z i)) r) ∧ Below wc.heap.size wc wr) (fun _ _ _ _ _ q _ => x.bkn - (intOf q).toNat)
  case atStart => exact ⟨0, 0, Nat.zero_le _, rfl, rfl, ⟨rfl, .inl ⟨rfl, rfl⟩⟩, Below.refl _ _⟩
  case round =>
    obtain ⟨i, r, hi, rfl, hrd, hown, hbel⟩ := hrel
    have HRD : Hid (r = (rowsL l x.bk z i).length) := hrd
    have hr30 : r ≤ 30 := by have := rowsL_le l x.bk z i; omega
    clear hrd
    have hbw := after hb1 hbel
    by_cases hlt2 : i < x.bkn
    · obtain ⟨D, hD, hJ⟩ := HBK.out
      obtain ⟨bb, bo, rfl, hc⟩ := hD i hlt2
      obtain ⟨b, hbd⟩ : ∃ b, b = x.bk i := ⟨_, rfl⟩
      obtain ⟨alg, clg, eC, hlg, slg⟩ := hJ i hlt2
      rw [← hbd] at eC hlg slg
      have HBB : Hid (b = x.bk i) := hbd
      have HBS : Hid (Book.Short b 1048576) := by rw [hbd]; exact HSH.out.2.2.2 i hlt2
      have HLG : Hid (IntsAt w alg b.lgn b.lg) := hlg
      have lbb : bb < w.heap.size := World.block_lt_of_cell? w _ (hc 0 (by decide))
      have c0 : wr.cell? ⟨bb, bo + i * 13, none⟩ = some (.int .i64 b.name) := (hbw.cell (p := ⟨bb, bo + i * 13, none⟩) lbb).trans (by have := hc 0 (by decide); rw [eC] at this; exact this)
      have c1 : wr.cell? ⟨bb, bo + i * 13 + 1, none⟩ = some (.int .i64 b.who) := (hbw.cell (p := ⟨bb, bo + i * 13 + 1, none⟩) lbb).trans (by have := hc 1 (by decide); rw [eC] at this; exact this)
      have c2 : wr.cell? ⟨bb, bo + i * 13 + 2, none⟩ = some (.string b.own) := (hbw.cell (p := ⟨bb, bo + i * 13 + 2, none⟩) lbb).trans (by have := hc 2 (by decide); rw [eC] at this; exact this)
      have c3 : wr.cell? ⟨bb, bo + i * 13 + 3, none⟩ = some (.slice alg b.lgn clg) := (hbw.cell (p := ⟨bb, bo + i * 13 + 3, none⟩) lbb).trans (by have := hc 3 (by decide); rw [eC] at this; exact this)
      have c4 : wr.cell? ⟨bb, bo + i * 13 + 4, none⟩ = some (.int .i64 b.pe) := (hbw.cell (p := ⟨bb, bo + i * 13 + 4, none⟩) lbb).trans (by have := hc 4 (by decide); rw [eC] at this; exact this)
      have c5 : wr.cell? ⟨bb, bo + i * 13 + 5, none⟩ = some (.int .i64 b.len) := (hbw.cell (p := ⟨bb, bo + i * 13 + 5, none⟩) lbb).trans (by have := hc 5 (by decide); rw [eC] at this; exact this)
      have c6 : wr.cell? ⟨bb, bo + i * 13 + 6, none⟩ = some (.int .i64 b.hei) := (hbw.cell (p := ⟨bb, bo + i * 13 + 6, none⟩) lbb).trans (by have := hc 6 (by decide); rw [eC] at this; exact this)
      have c7 : wr.cell? ⟨bb, bo + i * 13 + 7, none⟩ = some (.int .i64 b.cl) := (hbw.cell (p := ⟨bb, bo + i * 13 + 7, none⟩) lbb).trans (by have := hc 7 (by decide); rw [eC] at this; exact this)
      have c8 : wr.cell? ⟨bb, bo + i * 13 + 8, none⟩ = some (.bool b.all) := (hbw.cell (p := ⟨bb, bo + i * 13 + 8, none⟩) lbb).trans (by have := hc 8 (by decide); rw [eC] at this; exact this)
      have c9 : wr.cell? ⟨bb, bo + i * 13 + 9, none⟩ = some (.int .i64 b.be) := (hbw.cell (p := ⟨bb, bo + i * 13 + 9, none⟩) lbb).trans (by have := hc 9 (by decide); rw [eC] at this; exact this)
      have c10 : wr.cell? ⟨bb, bo + i * 13 + 10, none⟩ = some (.int .i64 b.state) := (hbw.cell (p := ⟨bb, bo + i * 13 + 10, none⟩) lbb).trans (by have := hc 10 (by decide); rw [eC] at this; exact this)
      have c11 : wr.cell? ⟨bb, bo + i * 13 + 11, none⟩ = some (.int .i64 b.unt) := (hbw.cell (p := ⟨bb, bo + i * 13 + 11, none⟩) lbb).trans (by have := hc 11 (by decide); rw [eC] at this; exact this)
      have c12 : wr.cell? ⟨bb, bo + i * 13 + 12, none⟩ = some (.int .i64 b.price) := (hbw.cell (p := ⟨bb, bo + i * 13 + 12, none⟩) lbb).trans (by have := hc 12 (by decide); rw [eC] at this; exact this)
      clear hD hJ hc eC hbd hlg slg
      go_wp2_with fail
      have bB := heap_alloc_new wr (.cells #[.int .i64 b.name, .int .i64 b.who, .string b.own, .slice alg b.lgn clg, .int .i64 b.pe, .int .i64 b.len, .int .i64 b.hei, .int .i64 b.cl, .bool b.all, .int .i64 b.be, .int .i64 b.state, .int .i64 b.unt, .int .i64 b.price] 69)
      have hbq : Below wc.heap.size wc (wr.alloc (.cells #[.int .i64 b.name, .int .i64 b.who, .string b.own, .slice alg b.lgn clg, .int .i64 b.pe, .int .i64 b.len, .int .i64 b.hei, .int .i64 b.cl, .bool b.all, .int .i64 b.be, .int .i64 b.state, .int .i64 b.unt, .int .i64 b.price] 69)) := push hbel _
      have hown1 := hown.alloc (.cells #[.int .i64 b.name, .int .i64 b.who, .string b.own, .slice alg b.lgn clg, .int .i64 b.pe, .int .i64 b.len, .int .i64 b.hei, .int .i64 b.cl, .bool b.all, .int .i64 b.be, .int .i64 b.state, .int .i64 b.unt, .int .i64 b.price] 69)
      generalize wr.alloc (.cells #[.int .i64 b.name, .int .i64 b.who, .string b.own, .slice alg b.lgn clg, .int .i64 b.pe, .int .i64 b.len, .int .i64 b.hei, .int .i64 b.cl, .bool b.all, .int .i64 b.be, .int .i64 b.state, .int .i64 b.unt, .int .i64 b.price] 69) = Y at bB hbq hown1 ⊢
      generalize wr.heap.size = bbx at bB ⊢
      clear c0 c1 c2 c3 c4 c5 c6 c7 c8 c9 c10 c11 c12 hbel hbw hown
      refine (l7Live_any b alg clg _).mono ?_
      rintro e Y1 ⟨rfl, hby⟩
      have bB1 := blk_below bB hby
      have hbq1 := after hbq hby
      have hown2 := own_below hby hown1
      clear bB hbq hby hown1
      obtain ⟨t1, ht1⟩ : ∃ t, t = decide (Live b) := ⟨_, rfl⟩
      rw [← ht1]
      have HT1 : Hid (t1 = true ↔ Live b) := by show t1 = true ↔ Live b; rw [ht1, decide_eq_true_eq]
      clear ht1
      cases t1 with
      | false =>
        have HN : Hid (¬ OnZ (x.bk i) z) := fun h => by rw [← HBB.out] at h; have := HT1.out.2 h.1; cases this
        go_wp2
        go_roundw
        case rel => exact ⟨i + 1, r, by omega, by go_num, by rw [rowsL_no HN.out]; exact HRD.out, by rw [rowsL_no HN.out]; exact hown2, hbq1⟩
        case measure => simp [intOf]; omega
      | true =>
        have HLV : Hid (Live b) := HT1.out.1 rfl
        clear HT1
        have y3 := blk_cell bB1 3 _ rfl
        go_wp2_with fail
        refine (l1Has_any alg b.lgn clg b.lg z _ HBS.out.2 (HLG.out.below (after hb1 hbq1))).mono ?_
        rintro e Y2 ⟨⟨t2, rfl, ht2⟩, hw2⟩
        have hw2 := hw2.symm
        subst hw2
        have HT2 : Hid (t2 = true ↔ HasLeg b z) := ht2
        clear ht2 y3
        cases t2 with
        | false =>
          have HN : Hid (¬ OnZ (x.bk i) z) := fun h => by rw [← HBB.out] at h; have := HT2.out.2 h.2; cases this
          go_wp2
          go_roundw
          case rel => exact ⟨i + 1, r, by omega, by go_num, by rw [rowsL_no HN.out]; exact HRD.out, by rw [rowsL_no HN.out]; exact hown2, hbq1⟩
          case measure => simp [intOf]; omega
        | true =>
          have HON : Hid (OnZ (x.bk i) z) := by show OnZ (x.bk i) z; rw [← HBB.out]; exact ⟨HLV.out, HT2.out.1 rfl⟩
          clear HT2 HLV
          have y0 := blk_cell bB1 0 _ rfl
          have y2 := blk_cell bB1 2 _ rfl
          have y4 := blk_cell bB1 4 _ rfl
          have l0 : ∀ o, (Y1.alloc o).cell? ⟨B, 0, none⟩ = some (.slice ast l.stn cst) := fun o => blk_cell (blk_alloc (blk_below bL hbq1) o) 0 _ rfl
          go_wp2
          have bR := heap_alloc_new Y1 (.cells #[.int .i64 b.name, .string b.own, .int .i64 b.pe, .int .i64 (-1), .int .i64 (-1)] 89)
          have hbr : Below wc.heap.size wc (Y1.alloc (.cells #[.int .i64 b.name, .string b.own, .int .i64 b.pe, .int .i64 (-1), .int .i64 (-1)] 89)) := push hbq1 _
          have hown3 := hown2.alloc (.cells #[.int .i64 b.name, .string b.own, .int .i64 b.pe, .int .i64 (-1), .int .i64 (-1)] 89)
          have bB2 := blk_alloc bB1 (.cells #[.int .i64 b.name, .string b.own, .int .i64 b.pe, .int .i64 (-1), .int .i64 (-1)] 89)
          have hvb := fun g hg => And.right (World.ownsRow.lt hown2 g hg)
          have hY1 : wc.heap.size ≤ Y1.heap.size := hbq1.size
          have hbbx : bbx < Y1.heap.size := blk_lt bB1
          generalize Y1.alloc (.cells #[.int .i64 b.name, .string b.own, .int .i64 b.pe, .int .i64 (-1), .int .i64 (-1)] 89) = R0 at bR hbr hown3 bB2 ⊢
          generalize Y1.heap.size = rb at bR hY1 hbbx hvb ⊢
          clear y0 y2 y4 l0 hbq1 bB1 hown2
          have HVB : Hid _ := hvb
          clear hvb
          have hBw : B < wc.heap.size := blk_lt bL
          go_loopw [11, 50] (fun _ q wr => ∃ j : Nat, j ≤ l.stn ∧ q = .int .i64 j ∧ wr.heap[rb]? = some (.cells #[.int .i64 b.name, .string b.own, .int .i64 b.pe, .int .i64 (lastLn l.st b.who j), .int .i64 (-1)] 89 (0, 0)) ∧ Kept R0 wr (fun b => b = rb)) (fun _ q _ => l.stn - (intOf q).toNat)
          case atStart => exact ⟨0, Nat.zero_le _, rfl, bR, Kept.refl _ _⟩
          case round =>
            obtain ⟨j, hj, rfl, hR, hkp⟩ := hrel
            have hbx : Below wc.heap.size wc wr := Kept.below hbr hbr.size hkp (fun g e => by have e : g = rb := e; omega)
            have hbw := after hb1 hbx
            have bB3 := hkp.blk bB2 (by omega)
            by_cases hjl : j < l.stn
            · obtain ⟨sb, so, rfl, h0, h1, h2, h3⟩ := HST.out j hjl
              have lsb := World.block_lt_of_cell? w _ h0
              have c0 : wr.cell? ⟨sb, so + j * 4, none⟩ = some (.int .i64 (l.st j).who) := (hbw.cell (p := ⟨sb, so + j * 4, none⟩) lsb).trans h0
              have c1 : wr.cell? ⟨sb, so + j * 4 + 1, none⟩ = some (.int .i64 (l.st j).ln) := (hbw.cell (p := ⟨sb, so + j * 4 + 1, none⟩) lsb).trans h1
              have c2 : wr.cell? ⟨sb, so + j * 4 + 2, none⟩ = some (.int .i64 (l.st j).len) := (hbw.cell (p := ⟨sb, so + j * 4 + 2, none⟩) lsb).trans h2
              have c3 : wr.cell? ⟨sb, so + j * 4 + 3, none⟩ = some (.int .i64 (l.st j).hei) := (hbw.cell (p := ⟨sb, so + j * 4 + 3, none⟩) lsb).trans h3
              clear h0 h1 h2 h3
              have y1 : ∀ o, (wr.alloc o).cell? ⟨bbx, 1, none⟩ = some (.int .i64 b.who) := fun o => blk_cell (blk_alloc bB3 o) 1 _ rfl
              have r3 : ∀ o, (wr.alloc o).cell? ⟨rb, 3, none⟩ = some (.int .i64 (lastLn l.st b.who j)) := fun o => blk_cell (blk_alloc hR o) 3 _ rfl
              have g3 : ∀ o, (wr.alloc o).frozen? ⟨rb, 3, none⟩ = false := fun o => blk_free (blk_alloc hR o) 3
              have i1 : (0 : Int) ≤ (j : Int) := by omega
              have i2 : (j : Int) < (l.stn : Int) := by omega
              by_cases he : (l.st j).who = b.who
              · have e1 : ((l.st j).who == b.who) = true := by simpa using he
                have HE : Hid ((l.st j).who = b.who) := he
                clear he
                go_wp2
                go_roundw
                case rel => exact ⟨j + 1, by omega, by go_num, by rw [show lastLn l.st b.who (j + 1) = (l.st j).ln by rw [lastLn, if_pos HE.out]]; exact rowln_set (blk_alloc hR _) _, (hkp.trans (Kept.of_below (push (Below.refl _ _) _))).set (a := ⟨rb, 3, none⟩) rfl _⟩
                case measure => simp [intOf]; omega
              · have e1 : ((l.st j).who == b.who) = false := by simpa using he
                have HE : Hid (¬ (l.st j).who = b.who) := he
                clear he
                go_wp2
                go_roundw
                case rel => exact ⟨j + 1, by omega, by go_num, by rw [show lastLn l.st b.who (j + 1) = lastLn l.st b.who j by rw [lastLn, if_neg HE.out]]; exact blk_alloc hR _, hkp.trans (Kept.of_below (push (Below.refl _ _) _))⟩
                case measure => simp [intOf]; omega
            · obtain rfl : j = l.stn := by omega
              have l1 := blk_cell (blk_below bL hbx) 1 _ rfl
              clear hbx hbw bB3 bR hj hjl
              go_wp2
              clear l1
              have bR := hR
              have hkp0 := hkp
              clear hR hkp
              go_loopw [13, 66] (fun _ q wr => ∃ j : Nat, j ≤ l.ron ∧ q = .int .i64 j ∧ wr.heap[rb]? = some (.cells #[.int .i64 b.name, .string b.own, .int .i64 b.pe, .int .i64 (lastLn l.st b.who l.stn), .int .i64 (lastCab l.ro b.who j)] 89 (0, 0)) ∧ Kept R0 wr (fun b => b = rb)) (fun _ q _ => l.ron - (intOf q).toNat)
              case atStart => exact ⟨0, Nat.zero_le _, rfl, bR, hkp0⟩
              case round =>
                obtain ⟨j, hj, rfl, hR, hkp⟩ := hrel
                have hbx : Below wc.heap.size wc wr := Kept.below hbr hbr.size hkp (fun g e => by have e : g = rb := e; omega)
                have hbw := after hb1 hbx
                have bB3 := hkp.blk bB2 (by omega)
                by_cases hjl : j < l.ron
                · obtain ⟨sb, so, rfl, h0, h1, h2, h3⟩ := HRO.out j hjl
                  have lsb := World.block_lt_of_cell? w _ h0
                  have c0 : wr.cell? ⟨sb, so + j * 4, none⟩ = some (.int .i64 (l.ro j).who) := (hbw.cell (p := ⟨sb, so + j * 4, none⟩) lsb).trans h0
                  have c1 : wr.cell? ⟨sb, so + j * 4 + 1, none⟩ = some (.int .i64 (l.ro j).cab) := (hbw.cell (p := ⟨sb, so + j * 4 + 1, none⟩) lsb).trans h1
                  have c2 : wr.cell? ⟨sb, so + j * 4 + 2, none⟩ = some (.int .i64 (l.ro j).many) := (hbw.cell (p := ⟨sb, so + j * 4 + 2, none⟩) lsb).trans h2
                  have c3 : wr.cell? ⟨sb, so + j * 4 + 3, none⟩ = some (.bool (l.ro j).all) := (hbw.cell (p := ⟨sb, so + j * 4 + 3, none⟩) lsb).trans h3
                  clear h0 h1 h2 h3
                  have y1 : ∀ o, (wr.alloc o).cell? ⟨bbx, 1, none⟩ = some (.int .i64 b.who) := fun o => blk_cell (blk_alloc bB3 o) 1 _ rfl
                  have r3 : ∀ o, (wr.alloc o).cell? ⟨rb, 4, none⟩ = some (.int .i64 (lastCab l.ro b.who j)) := fun o => blk_cell (blk_alloc hR o) 4 _ rfl
                  have g3 : ∀ o, (wr.alloc o).frozen? ⟨rb, 4, none⟩ = false := fun o => blk_free (blk_alloc hR o) 4
                  have i1 : (0 : Int) ≤ (j : Int) := by omega
                  have i2 : (j : Int) < (l.ron : Int) := by omega
                  by_cases he : (l.ro j).who = b.who
                  · have e1 : ((l.ro j).who == b.who) = true := by simpa using he
                    have HE : Hid ((l.ro j).who = b.who) := he
                    clear he
                    go_wp2
                    go_roundw
                    case rel => exact ⟨j + 1, by omega, by go_num, by rw [show lastCab l.ro b.who (j + 1) = (l.ro j).cab by rw [lastCab, if_pos HE.out]]; exact rowcab_set (blk_alloc hR _) _, (hkp.trans (Kept.of_below (push (Below.refl _ _) _))).set (a := ⟨rb, 4, none⟩) rfl _⟩
                    case measure => simp [intOf]; omega
                  · have e1 : ((l.ro j).who == b.who) = false := by simpa using he
                    have HE : Hid (¬ (l.ro j).who = b.who) := he
                    clear he
                    go_wp2
                    go_roundw
                    case rel => exact ⟨j + 1, by omega, by go_num, by rw [show lastCab l.ro b.who (j + 1) = lastCab l.ro b.who j by rw [lastCab, if_neg HE.out]]; exact blk_alloc hR _, hkp.trans (Kept.of_below (push (Below.refl _ _) _))⟩
                    case measure => simp [intOf]; omega
                · obtain rfl : j = l.ron := by omega
                  have hown4 := hkp.own hown3 (fun g hg e => by have := HVB.out g hg; have e : g = rb := e; omega)
                  have r0 := blk_cell hR 0 _ rfl
                  have r1 := blk_cell hR 1 _ rfl
                  have r2 := blk_cell hR 2 _ rfl
                  have r3 := blk_cell hR 3 _ rfl
                  have r4 := blk_cell hR 4 _ rfl
                  have hsz := hbx.size
                  clear bB3 bB2 hbw bR hkp hkp0 hR hj hjl
                  have HNW : Hid (∀ ad, (some ⟨wr.heap.size, 0, none⟩ : Option Addr) = some ad → ∀ j u, ([.int .i64 b.name, .string b.own, .int .i64 b.pe, .int .i64 (lastLn l.st b.who l.stn), .int .i64 (lastCab l.ro b.who l.ron)] : List Value)[j]? = some u → (wr.alloc (.cells #[.int .i64 b.name, .string b.own, .int .i64 b.pe, .int .i64 (lastLn l.st b.who l.stn), .int .i64 (lastCab l.ro b.who l.ron)] 89)).cell? (ad.add j) = some u) := by
                    intro ad e
                    cases e
                    exact World.news_of_block (heap_alloc_new wr _)
                  go_wp2_with (first | (at_builtin; refine wpList_append_any _ (by rfl) (.tmp 79) (.tmp 81) 37 (by rfl) wc.heap.size 89 j0 (.agg #[.int .i64 0, .string ⟨#[]⟩, .int .i64 0, .int .i64 0, .int .i64 0]) 5 48 Tryz.underlying37 ji jz0 jz1 jz2 rfl (by decide) _ r (rowList (nthR (rowsL l x.bk z i)) r) (by rfl) (hown4.alloc _) (some ⟨wr.heap.size, 0, none⟩) 1 1 [.int .i64 b.name, .string b.own, .int .i64 b.pe, .int .i64 (lastLn l.st b.who l.stn), .int .i64 (lastCab l.ro b.who l.ron)] (by rfl) (fun h => (by cases h)) (by rfl) HNW.out (by intro u hu; simp at hu; rcases hu with rfl | rfl | rfl | rfl | rfl <;> rfl) (by unfold maxLen; omega) (by omega) (by simp; omega) ?_; intro v' w3 ho3 hg3))
                  go_roundw
                  case rel =>
                    refine ⟨i + 1, r + 1, by omega, by go_num, ?_, ?_, (push hbx _).grown hg3 (by simp; omega) (fun j hj => (hown4.lt j hj).1)⟩
                    · rw [rowsL_yes HON.out, List.length_append, ← HRD.out]; rfl
                    · have e := rowList_snoc (rowsL l x.bk z i) (rowOf l (x.bk i))
                      rw [← HRD.out] at e
                      rw [rowsL_yes HON.out, e, ← HBB.out]
                      exact ho3
                  case measure => simp [intOf]; omega
    · obtain rfl : i = x.bkn := by omega
      go_wp2
      go_ret
      exact ⟨⟨_, rfl, by rw [← HRD.out]; exact own_base hown hb1.size⟩, hbw⟩

end Go.Proofs.YtlnadbnoemlpeaaGreat
