/-
  OWN TEXT: SpecHas, SpecRows, SpecEi, SpecEj, SpecEk.
-/
import Derived.Test.YtfallpinmhbemaaGreatDoorRows
import Derived.Deep.RegionHeld3
import Derived.Deep.DeepCutAuto
import Derived.Deep.RegionLawGrows
import Derived.Deep.AppendLies
import Derived.Great.Walk
import Derived.Test.YtfallpinmhbemaaGreatDoorB00
import Derived.Test.YtfallpinmhbemaaGreatDoorB22
import Derived.Test.YtfallpinmhbemaaGreatDoorB18
import Derived.Test.YtfallpinmhbemaaGreatDoorB10
import Derived.Test.YtfallpinmhbemaaGreatDoorB05
import Derived.Test.YtfallpinmhbemaaGreatDoorB19
import Derived.Test.YtfallpinmhbemaaGreatDoorB20
import Derived.Test.YtfallpinmhbemaaGreatDoorB07
import Derived.Test.YtfallpinmhbemaaGreatDoorB11
import Derived.Test.YtfallpinmhbemaaGreatDoorB06
namespace Go.Proofs.YtfallpinmhbemaaGreatDoor
open Go.RowKit

set_option maxHeartbeats 400000 in
theorem l1Has_no (ao : Option Addr) (n cap : Nat) (f : Nat → Int) (x : Int) (w : World) (hn : n ≤ 1048576) (hz : IntsAt w ao n f) (hno : ∀ j, j < n → f j ≠ x) :
    Calls Tryz.prog 117 #[.slice ao n cap, .int .i64 x] w fun e w' => e = .returned (.bool false) ∧ w' = w := by
  go_enter Tryz.func117, Tryz.ntmps117
  go_wp2
  go_loop [9] (fun i => ∃ k : Nat, k ≤ n ∧ i = .int .i64 k) (fun i => n - (intOf i).toNat)
  case atStart => exact ⟨0, Nat.zero_le _, rfl⟩
  case round =>
    obtain ⟨k, hk, rfl⟩ := hrel
    by_cases hlt : k < n
    · obtain ⟨b, off, rfl, hc⟩ := hz k hlt
      have hne : (f k == x) = false := by simpa using hno k hlt
      go_wp2
      go_round
      case rel => exact ⟨k + 1, by omega, by go_num⟩
      case measure => simp [intOf]; omega
    · go_wp2
      go_ret
      exact ⟨rfl, rfl⟩

set_option maxHeartbeats 400000 in
theorem l1Has_yes (ao : Option Addr) (n cap : Nat) (f : Nat → Int) (x : Int) (w : World) (hn : n ≤ 1048576) (hz : IntsAt w ao n f) (hyes : ∃ j, j < n ∧ f j = x) :
    Calls Tryz.prog 117 #[.slice ao n cap, .int .i64 x] w fun e w' => e = .returned (.bool true) ∧ w' = w := by
  have H : Hid (∃ j, j < n ∧ f j = x) := hyes
  clear hyes
  go_enter Tryz.func117, Tryz.ntmps117
  go_wp2
  go_loop [9] (fun i => ∃ k : Nat, k ≤ n ∧ i = .int .i64 k ∧ ∀ j, j < k → f j ≠ x) (fun i => n - (intOf i).toNat)
  case atStart => exact ⟨0, Nat.zero_le _, rfl, by omega⟩
  case round =>
    obtain ⟨k, hk, rfl, hbef⟩ := hrel
    have HB : Hid (∀ j, j < k → f j ≠ x) := hbef
    clear hbef
    by_cases hlt : k < n
    · obtain ⟨b, off, rfl, hc⟩ := hz k hlt
      by_cases he : f k = x
      · have hne : (f k == x) = true := by simpa using he
        clear he
        go_wp2
        go_ret
        exact ⟨rfl, rfl⟩
      · have hne : (f k == x) = false := by simpa using he
        have HE : Hid (f k ≠ x) := he
        clear he
        go_wp2
        go_round
        case rel => exact ⟨k + 1, by omega, by go_num, fun j hj => by
          by_cases e : j = k
          · rw [e]; exact HE.out
          · exact HB.out j (by omega)⟩
        case measure => simp [intOf]; omega
    · exfalso
      obtain ⟨j, hj, e⟩ := H.out
      exact HB.out j (by omega) e

theorem l1Has_any (ao : Option Addr) (n cap : Nat) (f : Nat → Int) (x : Int) (w : World) (hn : n ≤ 1048576) (hz : IntsAt w ao n f) :
    Calls Tryz.prog 117 #[.slice ao n cap, .int .i64 x] w fun e w' => (∃ b : Bool, e = .returned (.bool b) ∧ (b = true ↔ ∃ j, j < n ∧ f j = x)) ∧ w' = w := by
  by_cases h : ∃ j, j < n ∧ f j = x
  · exact (l1Has_yes ao n cap f x w hn hz h).mono fun _ _ ⟨a, b⟩ => ⟨⟨true, a, ⟨fun _ => h, fun _ => rfl⟩⟩, b⟩
  · exact (l1Has_no ao n cap f x w hn hz (fun j hj e => h ⟨j, hj, e⟩)).mono fun _ _ ⟨a, b⟩ => ⟨⟨false, a, ⟨fun e => (by cases e), fun e => absurd e h⟩⟩, b⟩

end Go.Proofs.YtfallpinmhbemaaGreatDoor

namespace Go.Proofs.YtfallpinmhbemaaGreatDoor
open Go.RowKit

theorem setV {n : Nat} {w w' : World} (h : Below n w w') {g o : Nat} (hg : n ≤ g) (v : Value) : Below n w (w'.setCell ⟨g, o, none⟩ v) := h.setCell (p := ⟨g, o, none⟩) hg v
theorem rec3W {w : World} {g t : Nat} {u0 u1 u2 : Value} (h : w.heap[g]? = some (.cells #[u0, u1, u2] t (0, 0))) (v0 v1 v2 : Value) :
    (((w.setCell ⟨g, 0, none⟩ v0).setCell ⟨g, 1, none⟩ v1).setCell ⟨g, 2, none⟩ v2).heap[g]? = some (.cells #[v0, v1, v2] t (0, 0)) := by
  have a : (w.setCell ⟨g, 0, none⟩ v0).heap[g]? = some (.cells #[v0, u1, u2] t (0, 0)) := by simpa using blk_set h 0 v0
  have b : ((w.setCell ⟨g, 0, none⟩ v0).setCell ⟨g, 1, none⟩ v1).heap[g]? = some (.cells #[v0, v1, u2] t (0, 0)) := by simpa using blk_set a 1 v1
  simpa using blk_set b 2 v2
theorem rowln_set {w : World} {g t : Nat} {u0 u1 u2 u3 u4 : Value} (h : w.heap[g]? = some (.cells #[u0, u1, u2, u3, u4] t (0, 0))) (v : Value) : (w.setCell ⟨g, 3, none⟩ v).heap[g]? = some (.cells #[u0, u1, u2, v, u4] t (0, 0)) := by simpa using blk_set h 3 v
theorem rowcab_set {w : World} {g t : Nat} {u0 u1 u2 u3 u4 : Value} (h : w.heap[g]? = some (.cells #[u0, u1, u2, u3, u4] t (0, 0))) (v : Value) : (w.setCell ⟨g, 4, none⟩ v).heap[g]? = some (.cells #[u0, u1, u2, u3, v] t (0, 0)) := by simpa using blk_set h 4 v

set_option maxHeartbeats 12800000 in
set_option maxRecDepth 100000 in
theorem specRows_raw (x : Off) (asa ald abk : Option Addr) (csa cld cbk k : Nat) (z : Int) (w : World) (hs : Off.Short x 1048576) (hsa : SailsAt w asa x.san x.sa) (hld : LoadsAt w ald x.ldn x.ld) (hbk : BooksAt w abk x.bkn x.bk) (hcb : x.bkn ≤ 30) (hkd : findIx x.sa z x.san = k) (hlt : k < x.san) (hm1 : x.ldn = x.san) :
    Calls Tryz.prog 144 #[.agg #[.slice asa x.san csa, .slice ald x.ldn cld, .slice abk x.bkn cbk], .int .i64 z] w fun e w' => (∃ v, e = .returned v ∧ w'.ownsRow w.heap.size 212 5 v (rowsL (x.ld k) x.bk z x.bkn).length (rowList (nthR (rowsL (x.ld k) x.bk z x.bkn)) (rowsL (x.ld k) x.bk z x.bkn).length)) ∧ Below w.heap.size w w' := by
  obtain ⟨j0, ji, jz0, jz1, jz2⟩ := info_parts Tryz.infoRow
  have HSA : Hid (SailsAt w asa x.san x.sa) := hsa
  have HBK : Hid (BooksAt w abk x.bkn x.bk) := hbk
  have HSH : Hid (Off.Short x 1048576) := hs
  have n1 : x.san ≤ 1048576 := hs.1.1
  have HKD : Hid (findIx x.sa z x.san = k) := hkd
  obtain ⟨C, hC, hI⟩ := hld
  obtain ⟨lb, lo, rfl, hc⟩ := hC k (by omega)
  obtain ⟨l, hld⟩ : ∃ l, l = x.ld k := ⟨_, rfl⟩
  obtain ⟨ast, cst, aro, cro, ase, cse, eC, hst, sst, hro, sro, hse, sse⟩ := hI k (by omega)
  rw [← hld] at eC hst sst hro sro hse sse
  have hsh := hs.2.1.2 k (by omega)
  rw [← hld] at hsh
  have n2 : l.stn ≤ 1048576 := hsh.1
  have n3 : l.ron ≤ 1048576 := hsh.2.1
  rw [← hld]
  have HST : Hid (StaysAt w ast l.stn l.st) := hst
  have HRO : Hid (RoomsAt w aro l.ron l.ro) := hro
  have llb : lb < w.heap.size := World.block_lt_of_cell? w _ (hc 0 (by decide))
  have hk0 : (0 : Int) ≤ (k : Int) := by omega
  have hk1 : (k : Int) < (x.ldn : Int) := by omega
  have HLD : Hid (w.cell? ⟨lb, lo + k * 3, none⟩ = some (.slice ast l.stn cst) ∧ w.cell? ⟨lb, lo + k * 3 + 1, none⟩ = some (.slice aro l.ron cro) ∧ w.cell? ⟨lb, lo + k * 3 + 2, none⟩ = some (.slice ase l.sen cse)) :=
    ⟨by have := hc 0 (by decide); rw [eC] at this; exact this, by have := hc 1 (by decide); rw [eC] at this; exact this, by have := hc 2 (by decide); rw [eC] at this; exact this⟩
  have HC3 : Hid (∀ w', Below w.heap.size w w' → Calls Tryz.prog 110 #[.slice asa x.san csa, .int .i64 z] w' fun e w2 => e = .returned (.int .i64 k) ∧ Below w'.heap.size w' w2) := fun w' h =>
    (l3At_any asa x.san csa x.sa z w' n1 (HSA.out.below h)).mono fun e w2 ⟨a, b⟩ => ⟨by
      rw [HKD.out] at a
      rcases a with ⟨_, rfl⟩ | ⟨h, _⟩
      · rfl
      · omega, b⟩
  have hb0 : Below w.heap.size w (w.alloc (.cells #[.slice asa x.san csa, .slice (some ⟨lb, lo, none⟩) x.ldn cld, .slice abk x.bkn cbk] 66)) := push (Below.refl _ _) _
  have bO := heap_alloc_new w (.cells #[.slice asa x.san csa, .slice (some ⟨lb, lo, none⟩) x.ldn cld, .slice abk x.bkn cbk] 66)
  clear hsa hbk hs hkd hC hI hc eC hst sst hro sro hse sse hsh hld hm1
  go_enter Tryz.func144, Tryz.ntmps144
  go_upto_region 1 with fail
  generalize w.alloc (.cells #[.slice asa x.san csa, .slice (some ⟨lb, lo, none⟩) x.ldn cld, .slice abk x.bkn cbk] 66) = V at hb0 bO ⊢
  have hVs := hb0.size
  have BW : Hid (∀ w', Below V.heap.size V w' → Below w.heap.size w w') := fun w' h => after hb0 h
  have bOl := blk_lt bO
  have KS : Hid (∀ w', Below V.heap.size V w' → (w'.cell? ⟨w.heap.size, 0, none⟩ = some (.slice asa x.san csa) ∧ w'.cell? ⟨w.heap.size, 1, none⟩ = some (.slice (some ⟨lb, lo, none⟩) x.ldn cld) ∧ w'.cell? ⟨lb, lo + k * 3, none⟩ = some (.slice ast l.stn cst) ∧ w'.cell? ⟨lb, lo + k * 3 + 1, none⟩ = some (.slice aro l.ron cro) ∧ w'.cell? ⟨lb, lo + k * 3 + 2, none⟩ = some (.slice ase l.sen cse))) := fun w' h => by
    have g1 := blk_below bO h
    have g2 := after hb0 h
    exact ⟨blk_cell g1 0 _ rfl, blk_cell g1 1 _ rfl, (g2.cell (p := ⟨lb, lo + k * 3, none⟩) llb).trans HLD.out.1, (g2.cell (p := ⟨lb, lo + k * 3 + 1, none⟩) llb).trans HLD.out.2.1, (g2.cell (p := ⟨lb, lo + k * 3 + 2, none⟩) llb).trans HLD.out.2.2⟩
  go_cut [5] (fun s5 wc => ∃ B, s5 = .pointer (some ⟨B, 0, none⟩) ∧ wc.heap[B]? = some (.cells #[.slice ast l.stn cst, .slice aro l.ron cro, .slice ase l.sen cse] 136 (0, 0)) ∧ Below V.heap.size V wc)
  case first =>
    go_region_held3 (fun w' => w'.cell? ⟨w.heap.size, 0, none⟩ = some (.slice asa x.san csa) ∧ w'.cell? ⟨w.heap.size, 1, none⟩ = some (.slice (some ⟨lb, lo, none⟩) x.ldn cld) ∧ w'.cell? ⟨lb, lo + k * 3, none⟩ = some (.slice ast l.stn cst) ∧ w'.cell? ⟨lb, lo + k * 3 + 1, none⟩ = some (.slice aro l.ron cro) ∧ w'.cell? ⟨lb, lo + k * 3 + 2, none⟩ = some (.slice ase l.sen cse))
      ((refine KS.out _ ?_; exact (by repeat (first | exact Below.refl _ _ | refine Below.drew ?_ | refine push ?_ _ | refine setV ?_ (by omega) _ | refine after ?_ hb4))))
      (first | (go_at_call 110; refine Calls.mono (HC3.out _ (BW.out _ (by repeat (first | exact Below.refl _ _ | refine Below.drew ?_ | refine push ?_ _ | refine setV ?_ (by omega) _ | refine after ?_ hb4)))) ?_; rintro e w4 ⟨rfl, hb4⟩; have s4 : V.heap.size ≤ w4.heap.size := (by have := hb4.size; first | omega | (simp at this; omega)); (first | (have hby : w4.heap[V.heap.size]? = some (.cells #[.slice none 0 0, .slice none 0 0, .slice none 0 0] 136 (0, 0)) := blk_below (heap_alloc_new V.drew (.cells #[.slice none 0 0, .slice none 0 0, .slice none 0 0] 136)) hb4; have y0 := blk_cell hby 0 _ rfl; have y1 := blk_cell hby 1 _ rfl; have y2 := blk_cell hby 2 _ rfl; have f0 := blk_free hby 0; have f1 := blk_free hby 1; have f2 := blk_free hby 2) | skip)))
    all_goals
      go_wp2
      go_meet
      first | exact ⟨_, rfl, heap_alloc_new w4 _, (by repeat (first | exact Below.refl _ _ | refine Below.drew ?_ | refine push ?_ _ | refine setV ?_ (by omega) _ | refine after ?_ hb4))⟩ | exact ⟨_, rfl, rec3W hby _ _ _, (by repeat (first | exact Below.refl _ _ | refine Below.drew ?_ | refine push ?_ _ | refine setV ?_ (by omega) _ | refine after ?_ hb4))⟩
  case rest =>
  obtain ⟨B, rfl, bL, hbc⟩ := hcut
  have bO1 := blk_below bO hbc
  have hb1 := after hb0 hbc
  clear bO hb0 hbc KS BW HC3 HLD bOl hVs
  have z2 := blk_cell bO1 2 _ rfl
  go_wp2
  clear z2
  go_loopw [6, 8, 9, 11, 13, 25] (fun v _ _ _ _ q wr => ∃ (i r : Nat), i ≤ x.bkn ∧ q = .int .i64 i ∧ r = (rowsL l x.bk z i).length ∧ wr.ownsRow wc.heap.size 212 5 v r (rowList (nthR (rowsL l x.bk z i)) r) ∧ Below wc.heap.size wc wr) (fun _ _ _ _ _ q _ => x.bkn - (intOf q).toNat)
  case atStart => exact ⟨0, 0, Nat.zero_le _, rfl, rfl, ⟨rfl, .inl ⟨rfl, rfl⟩⟩, Below.refl _ _⟩
  case round =>
    obtain ⟨i, r, hi, rfl, hrd, hown, hbel⟩ := hrel
    have HRD : Hid (r = (rowsL l x.bk z i).length) := hrd
    have hr30 : r ≤ 30 := by have := rowsL_le l x.bk z i; omega
    clear hrd
    have hbw := after hb1 hbel
    by_cases hlt2 : i < x.bkn
    · obtain ⟨D, hD, hJ⟩ := HBK.out
      obtain ⟨bb, bo, rfl, hc⟩ := hD i hlt2
      obtain ⟨b, hbd⟩ : ∃ b, b = x.bk i := ⟨_, rfl⟩
      obtain ⟨alg, clg, eC, hlg, slg⟩ := hJ i hlt2
      rw [← hbd] at eC hlg slg
      have HBB : Hid (b = x.bk i) := hbd
      have HBS : Hid (Book.Short b 1048576) := by rw [hbd]; exact HSH.out.2.2.2 i hlt2
      have HLG : Hid (IntsAt w alg b.lgn b.lg) := hlg
      have lbb : bb < w.heap.size := World.block_lt_of_cell? w _ (hc 0 (by decide))
      have c0 : wr.cell? ⟨bb, bo + i * 13, none⟩ = some (.int .i64 b.name) := (hbw.cell (p := ⟨bb, bo + i * 13, none⟩) lbb).trans (by have := hc 0 (by decide); rw [eC] at this; exact this)
      have c1 : wr.cell? ⟨bb, bo + i * 13 + 1, none⟩ = some (.int .i64 b.who) := (hbw.cell (p := ⟨bb, bo + i * 13 + 1, none⟩) lbb).trans (by have := hc 1 (by decide); rw [eC] at this; exact this)
      have c2 : wr.cell? ⟨bb, bo + i * 13 + 2, none⟩ = some (.string b.own) := (hbw.cell (p := ⟨bb, bo + i * 13 + 2, none⟩) lbb).trans (by have := hc 2 (by decide); rw [eC] at this; exact this)
      have c3 : wr.cell? ⟨bb, bo + i * 13 + 3, none⟩ = some (.slice alg b.lgn clg) := (hbw.cell (p := ⟨bb, bo + i * 13 + 3, none⟩) lbb).trans (by have := hc 3 (by decide); rw [eC] at this; exact this)
      have c4 : wr.cell? ⟨bb, bo + i * 13 + 4, none⟩ = some (.int .i64 b.pe) := (hbw.cell (p := ⟨bb, bo + i * 13 + 4, none⟩) lbb).trans (by have := hc 4 (by decide); rw [eC] at this; exact this)
      have c5 : wr.cell? ⟨bb, bo + i * 13 + 5, none⟩ = some (.int .i64 b.len) := (hbw.cell (p := ⟨bb, bo + i * 13 + 5, none⟩) lbb).trans (by have := hc 5 (by decide); rw [eC] at this; exact this)
      have c6 : wr.cell? ⟨bb, bo + i * 13 + 6, none⟩ = some (.int .i64 b.hei) := (hbw.cell (p := ⟨bb, bo + i * 13 + 6, none⟩) lbb).trans (by have := hc 6 (by decide); rw [eC] at this; exact this)
      have c7 : wr.cell? ⟨bb, bo + i * 13 + 7, none⟩ = some (.int .i64 b.cl) := (hbw.cell (p := ⟨bb, bo + i * 13 + 7, none⟩) lbb).trans (by have := hc 7 (by decide); rw [eC] at this; exact this)
      have c8 : wr.cell? ⟨bb, bo + i * 13 + 8, none⟩ = some (.bool b.all) := (hbw.cell (p := ⟨bb, bo + i * 13 + 8, none⟩) lbb).trans (by have := hc 8 (by decide); rw [eC] at this; exact this)
      have c9 : wr.cell? ⟨bb, bo + i * 13 + 9, none⟩ = some (.int .i64 b.be) := (hbw.cell (p := ⟨bb, bo + i * 13 + 9, none⟩) lbb).trans (by have := hc 9 (by decide); rw [eC] at this; exact this)
      have c10 : wr.cell? ⟨bb, bo + i * 13 + 10, none⟩ = some (.int .i64 b.state) := (hbw.cell (p := ⟨bb, bo + i * 13 + 10, none⟩) lbb).trans (by have := hc 10 (by decide); rw [eC] at this; exact this)
      have c11 : wr.cell? ⟨bb, bo + i * 13 + 11, none⟩ = some (.int .i64 b.unt) := (hbw.cell (p := ⟨bb, bo + i * 13 + 11, none⟩) lbb).trans (by have := hc 11 (by decide); rw [eC] at this; exact this)
      have c12 : wr.cell? ⟨bb, bo + i * 13 + 12, none⟩ = some (.int .i64 b.price) := (hbw.cell (p := ⟨bb, bo + i * 13 + 12, none⟩) lbb).trans (by have := hc 12 (by decide); rw [eC] at this; exact this)
      clear hD hJ hc eC hbd hlg slg
      go_wp2_with fail
      have bB := heap_alloc_new wr (.cells #[.int .i64 b.name, .int .i64 b.who, .string b.own, .slice alg b.lgn clg, .int .i64 b.pe, .int .i64 b.len, .int .i64 b.hei, .int .i64 b.cl, .bool b.all, .int .i64 b.be, .int .i64 b.state, .int .i64 b.unt, .int .i64 b.price] 131)
      have hbq : Below wc.heap.size wc (wr.alloc (.cells #[.int .i64 b.name, .int .i64 b.who, .string b.own, .slice alg b.lgn clg, .int .i64 b.pe, .int .i64 b.len, .int .i64 b.hei, .int .i64 b.cl, .bool b.all, .int .i64 b.be, .int .i64 b.state, .int .i64 b.unt, .int .i64 b.price] 131)) := push hbel _
      have hown1 := hown.alloc (.cells #[.int .i64 b.name, .int .i64 b.who, .string b.own, .slice alg b.lgn clg, .int .i64 b.pe, .int .i64 b.len, .int .i64 b.hei, .int .i64 b.cl, .bool b.all, .int .i64 b.be, .int .i64 b.state, .int .i64 b.unt, .int .i64 b.price] 131)
      generalize wr.alloc (.cells #[.int .i64 b.name, .int .i64 b.who, .string b.own, .slice alg b.lgn clg, .int .i64 b.pe, .int .i64 b.len, .int .i64 b.hei, .int .i64 b.cl, .bool b.all, .int .i64 b.be, .int .i64 b.state, .int .i64 b.unt, .int .i64 b.price] 131) = Y at bB hbq hown1 ⊢
      generalize wr.heap.size = bbx at bB ⊢
      clear c0 c1 c2 c3 c4 c5 c6 c7 c8 c9 c10 c11 c12 hbel hbw hown
      refine (l7Live_any b alg clg _).mono ?_
      rintro e Y1 ⟨rfl, hby⟩
      have bB1 := blk_below bB hby
      have hbq1 := after hbq hby
      have hown2 := own_below hby hown1
      clear bB hbq hby hown1
      obtain ⟨t1, ht1⟩ : ∃ t, t = decide (Live b) := ⟨_, rfl⟩
      rw [← ht1]
      have HT1 : Hid (t1 = true ↔ Live b) := by show t1 = true ↔ Live b; rw [ht1, decide_eq_true_eq]
      clear ht1
      cases t1 with
      | false =>
        have HN : Hid (¬ OnZ (x.bk i) z) := fun h => by rw [← HBB.out] at h; have := HT1.out.2 h.1; cases this
        go_wp2
        go_roundw
        case rel => exact ⟨i + 1, r, by omega, by go_num, by rw [rowsL_no HN.out]; exact HRD.out, by rw [rowsL_no HN.out]; exact hown2, hbq1⟩
        case measure => simp [intOf]; omega
      | true =>
        have HLV : Hid (Live b) := HT1.out.1 rfl
        clear HT1
        have y3 := blk_cell bB1 3 _ rfl
        go_wp2_with fail
        refine (l1Has_any alg b.lgn clg b.lg z _ HBS.out.2 (HLG.out.below (after hb1 hbq1))).mono ?_
        rintro e Y2 ⟨⟨t2, rfl, ht2⟩, hw2⟩
        have hw2 := hw2.symm
        subst hw2
        have HT2 : Hid (t2 = true ↔ HasLeg b z) := ht2
        clear ht2 y3
        cases t2 with
        | false =>
          have HN : Hid (¬ OnZ (x.bk i) z) := fun h => by rw [← HBB.out] at h; have := HT2.out.2 h.2; cases this
          go_wp2
          go_roundw
          case rel => exact ⟨i + 1, r, by omega, by go_num, by rw [rowsL_no HN.out]; exact HRD.out, by rw [rowsL_no HN.out]; exact hown2, hbq1⟩
          case measure => simp [intOf]; omega
        | true =>
          have HON : Hid (OnZ (x.bk i) z) := by show OnZ (x.bk i) z; rw [← HBB.out]; exact ⟨HLV.out, HT2.out.1 rfl⟩
          clear HT2 HLV
          have y0 := blk_cell bB1 0 _ rfl
          have y2 := blk_cell bB1 2 _ rfl
          have y4 := blk_cell bB1 4 _ rfl
          have l0 : ∀ o, (Y1.alloc o).cell? ⟨B, 0, none⟩ = some (.slice ast l.stn cst) := fun o => blk_cell (blk_alloc (blk_below bL hbq1) o) 0 _ rfl
          go_wp2
          have bR := heap_alloc_new Y1 (.cells #[.int .i64 b.name, .string b.own, .int .i64 b.pe, .int .i64 (-1), .int .i64 (-1)] 212)
          have hbr : Below wc.heap.size wc (Y1.alloc (.cells #[.int .i64 b.name, .string b.own, .int .i64 b.pe, .int .i64 (-1), .int .i64 (-1)] 212)) := push hbq1 _
          have hown3 := hown2.alloc (.cells #[.int .i64 b.name, .string b.own, .int .i64 b.pe, .int .i64 (-1), .int .i64 (-1)] 212)
          have bB2 := blk_alloc bB1 (.cells #[.int .i64 b.name, .string b.own, .int .i64 b.pe, .int .i64 (-1), .int .i64 (-1)] 212)
          have hvb := fun g hg => And.right (World.ownsRow.lt hown2 g hg)
          have hY1 : wc.heap.size ≤ Y1.heap.size := hbq1.size
          have hbbx : bbx < Y1.heap.size := blk_lt bB1
          generalize Y1.alloc (.cells #[.int .i64 b.name, .string b.own, .int .i64 b.pe, .int .i64 (-1), .int .i64 (-1)] 212) = R0 at bR hbr hown3 bB2 ⊢
          generalize Y1.heap.size = rb at bR hY1 hbbx hvb ⊢
          clear y0 y2 y4 l0 hbq1 bB1 hown2
          have HVB : Hid _ := hvb
          clear hvb
          have hBw : B < wc.heap.size := blk_lt bL
          go_loopw [11, 50] (fun _ q wr => ∃ j : Nat, j ≤ l.stn ∧ q = .int .i64 j ∧ wr.heap[rb]? = some (.cells #[.int .i64 b.name, .string b.own, .int .i64 b.pe, .int .i64 (lastLn l.st b.who j), .int .i64 (-1)] 212 (0, 0)) ∧ Kept R0 wr (fun b => b = rb)) (fun _ q _ => l.stn - (intOf q).toNat)
          case atStart => exact ⟨0, Nat.zero_le _, rfl, bR, Kept.refl _ _⟩
          case round =>
            obtain ⟨j, hj, rfl, hR, hkp⟩ := hrel
            have hbx : Below wc.heap.size wc wr := Kept.below hbr hbr.size hkp (fun g e => by have e : g = rb := e; omega)
            have hbw := after hb1 hbx
            have bB3 := hkp.blk bB2 (by omega)
            by_cases hjl : j < l.stn
            · obtain ⟨sb, so, rfl, h0, h1, h2, h3⟩ := HST.out j hjl
              have lsb := World.block_lt_of_cell? w _ h0
              have c0 : wr.cell? ⟨sb, so + j * 4, none⟩ = some (.int .i64 (l.st j).who) := (hbw.cell (p := ⟨sb, so + j * 4, none⟩) lsb).trans h0
              have c1 : wr.cell? ⟨sb, so + j * 4 + 1, none⟩ = some (.int .i64 (l.st j).ln) := (hbw.cell (p := ⟨sb, so + j * 4 + 1, none⟩) lsb).trans h1
              have c2 : wr.cell? ⟨sb, so + j * 4 + 2, none⟩ = some (.int .i64 (l.st j).len) := (hbw.cell (p := ⟨sb, so + j * 4 + 2, none⟩) lsb).trans h2
              have c3 : wr.cell? ⟨sb, so + j * 4 + 3, none⟩ = some (.int .i64 (l.st j).hei) := (hbw.cell (p := ⟨sb, so + j * 4 + 3, none⟩) lsb).trans h3
              clear h0 h1 h2 h3
              have y1 : ∀ o, (wr.alloc o).cell? ⟨bbx, 1, none⟩ = some (.int .i64 b.who) := fun o => blk_cell (blk_alloc bB3 o) 1 _ rfl
              have r3 : ∀ o, (wr.alloc o).cell? ⟨rb, 3, none⟩ = some (.int .i64 (lastLn l.st b.who j)) := fun o => blk_cell (blk_alloc hR o) 3 _ rfl
              have g3 : ∀ o, (wr.alloc o).frozen? ⟨rb, 3, none⟩ = false := fun o => blk_free (blk_alloc hR o) 3
              have i1 : (0 : Int) ≤ (j : Int) := by omega
              have i2 : (j : Int) < (l.stn : Int) := by omega
              by_cases he : (l.st j).who = b.who
              · have e1 : ((l.st j).who == b.who) = true := by simpa using he
                have HE : Hid ((l.st j).who = b.who) := he
                clear he
                go_wp2
                go_roundw
                case rel => exact ⟨j + 1, by omega, by go_num, by rw [show lastLn l.st b.who (j + 1) = (l.st j).ln by rw [lastLn, if_pos HE.out]]; exact rowln_set (blk_alloc hR _) _, (hkp.trans (Kept.of_below (push (Below.refl _ _) _))).set (a := ⟨rb, 3, none⟩) rfl _⟩
                case measure => simp [intOf]; omega
              · have e1 : ((l.st j).who == b.who) = false := by simpa using he
                have HE : Hid (¬ (l.st j).who = b.who) := he
                clear he
                go_wp2
                go_roundw
                case rel => exact ⟨j + 1, by omega, by go_num, by rw [show lastLn l.st b.who (j + 1) = lastLn l.st b.who j by rw [lastLn, if_neg HE.out]]; exact blk_alloc hR _, hkp.trans (Kept.of_below (push (Below.refl _ _) _))⟩
                case measure => simp [intOf]; omega
            · obtain rfl : j = l.stn := by omega
              have l1 := blk_cell (blk_below bL hbx) 1 _ rfl
              clear hbx hbw bB3 bR hj hjl
              go_wp2
              clear l1
              have bR := hR
              have hkp0 := hkp
              clear hR hkp
              go_loopw [13, 66] (fun _ q wr => ∃ j : Nat, j ≤ l.ron ∧ q = .int .i64 j ∧ wr.heap[rb]? = some (.cells #[.int .i64 b.name, .string b.own, .int .i64 b.pe, .int .i64 (lastLn l.st b.who l.stn), .int .i64 (lastCab l.ro b.who j)] 212 (0, 0)) ∧ Kept R0 wr (fun b => b = rb)) (fun _ q _ => l.ron - (intOf q).toNat)
              case atStart => exact ⟨0, Nat.zero_le _, rfl, bR, hkp0⟩
              case round =>
                obtain ⟨j, hj, rfl, hR, hkp⟩ := hrel
                have hbx : Below wc.heap.size wc wr := Kept.below hbr hbr.size hkp (fun g e => by have e : g = rb := e; omega)
                have hbw := after hb1 hbx
                have bB3 := hkp.blk bB2 (by omega)
                by_cases hjl : j < l.ron
                · obtain ⟨sb, so, rfl, h0, h1, h2, h3⟩ := HRO.out j hjl
                  have lsb := World.block_lt_of_cell? w _ h0
                  have c0 : wr.cell? ⟨sb, so + j * 4, none⟩ = some (.int .i64 (l.ro j).who) := (hbw.cell (p := ⟨sb, so + j * 4, none⟩) lsb).trans h0
                  have c1 : wr.cell? ⟨sb, so + j * 4 + 1, none⟩ = some (.int .i64 (l.ro j).cab) := (hbw.cell (p := ⟨sb, so + j * 4 + 1, none⟩) lsb).trans h1
                  have c2 : wr.cell? ⟨sb, so + j * 4 + 2, none⟩ = some (.int .i64 (l.ro j).many) := (hbw.cell (p := ⟨sb, so + j * 4 + 2, none⟩) lsb).trans h2
                  have c3 : wr.cell? ⟨sb, so + j * 4 + 3, none⟩ = some (.bool (l.ro j).all) := (hbw.cell (p := ⟨sb, so + j * 4 + 3, none⟩) lsb).trans h3
                  clear h0 h1 h2 h3
                  have y1 : ∀ o, (wr.alloc o).cell? ⟨bbx, 1, none⟩ = some (.int .i64 b.who) := fun o => blk_cell (blk_alloc bB3 o) 1 _ rfl
                  have r3 : ∀ o, (wr.alloc o).cell? ⟨rb, 4, none⟩ = some (.int .i64 (lastCab l.ro b.who j)) := fun o => blk_cell (blk_alloc hR o) 4 _ rfl
                  have g3 : ∀ o, (wr.alloc o).frozen? ⟨rb, 4, none⟩ = false := fun o => blk_free (blk_alloc hR o) 4
                  have i1 : (0 : Int) ≤ (j : Int) := by omega
                  have i2 : (j : Int) < (l.ron : Int) := by omega
                  by_cases he : (l.ro j).who = b.who
                  · have e1 : ((l.ro j).who == b.who) = true := by simpa using he
                    have HE : Hid ((l.ro j).who = b.who) := he
                    clear he
                    go_wp2
                    go_roundw
                    case rel => exact ⟨j + 1, by omega, by go_num, by rw [show lastCab l.ro b.who (j + 1) = (l.ro j).cab by rw [lastCab, if_pos HE.out]]; exact rowcab_set (blk_alloc hR _) _, (hkp.trans (Kept.of_below (push (Below.refl _ _) _))).set (a := ⟨rb, 4, none⟩) rfl _⟩
                    case measure => simp [intOf]; omega
                  · have e1 : ((l.ro j).who == b.who) = false := by simpa using he
                    have HE : Hid (¬ (l.ro j).who = b.who) := he
                    clear he
                    go_wp2
                    go_roundw
                    case rel => exact ⟨j + 1, by omega, by go_num, by rw [show lastCab l.ro b.who (j + 1) = lastCab l.ro b.who j by rw [lastCab, if_neg HE.out]]; exact blk_alloc hR _, hkp.trans (Kept.of_below (push (Below.refl _ _) _))⟩
                    case measure => simp [intOf]; omega
                · obtain rfl : j = l.ron := by omega
                  have hown4 := hkp.own hown3 (fun g hg e => by have := HVB.out g hg; have e : g = rb := e; omega)
                  have r0 := blk_cell hR 0 _ rfl
                  have r1 := blk_cell hR 1 _ rfl
                  have r2 := blk_cell hR 2 _ rfl
                  have r3 := blk_cell hR 3 _ rfl
                  have r4 := blk_cell hR 4 _ rfl
                  have hsz := hbx.size
                  clear bB3 bB2 hbw bR hkp hkp0 hR hj hjl
                  have HNW : Hid (∀ ad, (some ⟨wr.heap.size, 0, none⟩ : Option Addr) = some ad → ∀ j u, ([.int .i64 b.name, .string b.own, .int .i64 b.pe, .int .i64 (lastLn l.st b.who l.stn), .int .i64 (lastCab l.ro b.who l.ron)] : List Value)[j]? = some u → (wr.alloc (.cells #[.int .i64 b.name, .string b.own, .int .i64 b.pe, .int .i64 (lastLn l.st b.who l.stn), .int .i64 (lastCab l.ro b.who l.ron)] 212)).cell? (ad.add j) = some u) := by
                    intro ad e
                    cases e
                    exact World.news_of_block (heap_alloc_new wr _)
                  go_wp2_with (first | (at_builtin; refine wpList_append_any _ (by rfl) (.tmp 79) (.tmp 81) 125 (by rfl) wc.heap.size 212 j0 (.agg #[.int .i64 0, .string ⟨#[]⟩, .int .i64 0, .int .i64 0, .int .i64 0]) 5 48 Tryz.underlying125 ji jz0 jz1 jz2 rfl (by decide) _ r (rowList (nthR (rowsL l x.bk z i)) r) (by rfl) (hown4.alloc _) (some ⟨wr.heap.size, 0, none⟩) 1 1 [.int .i64 b.name, .string b.own, .int .i64 b.pe, .int .i64 (lastLn l.st b.who l.stn), .int .i64 (lastCab l.ro b.who l.ron)] (by rfl) (fun h => (by cases h)) (by rfl) HNW.out (by intro u hu; simp at hu; rcases hu with rfl | rfl | rfl | rfl | rfl <;> rfl) (by unfold maxLen; omega) (by omega) (by simp; omega) ?_; intro v' w3 ho3 hg3))
                  go_roundw
                  case rel =>
                    refine ⟨i + 1, r + 1, by omega, by go_num, ?_, ?_, (push hbx _).grown hg3 (by simp; omega) (fun j hj => (hown4.lt j hj).1)⟩
                    · rw [rowsL_yes HON.out, List.length_append, ← HRD.out]; rfl
                    · have e := rowList_snoc (rowsL l x.bk z i) (rowOf l (x.bk i))
                      rw [← HRD.out] at e
                      rw [rowsL_yes HON.out, e, ← HBB.out]
                      exact ho3
                  case measure => simp [intOf]; omega
    · obtain rfl : i = x.bkn := by omega
      go_wp2
      go_ret
      exact ⟨⟨_, rfl, by rw [← HRD.out]; exact own_base hown hb1.size⟩, hbw⟩

end Go.Proofs.YtfallpinmhbemaaGreatDoor

namespace Go.Proofs.YtfallpinmhbemaaGreatDoor
open Go.RowKit

set_option maxHeartbeats 25600000 in
set_option maxRecDepth 100000 in
theorem l7End_9 (g base N R csa cld cbk clg : Nat) (asa ald abk alg : Option Addr) (bys : Int) (y : OpD) (x : Off) (L C A B D E : Nat → Value) (w : World) (hq : w.heap[g]? = some (.cells #[.slice asa N csa, .slice ald N cld, .slice abk R cbk] 66 (0, 0))) (ho : OwnOff w base (.slice asa N csa) (.slice ald N cld) (.slice abk R cbk) N N R x L C A B D E) (hxb : x.bkn = R) (hbw : base ≤ w.heap.size) (hkd : y.kind = 9) (hpe : In y.pe 0 20) (hln : y.lgn ≤ 3) (hlg : IntsAt w alg y.lgn y.lg) (hsl : SliceOk alg y.lgn clg) (hlo : 0 < y.lgn → ∀ a, alg = some a → a.block < base) (k : Nat) (hl1 : 0 < y.lgn) (hk : findIx x.sa (y.lg 0) N = k) (hkn : k < N) (hs : Off.Short x 1048576) (hxs : x.san = N) (hxl : x.ldn = N) (h30 : x.bkn ≤ 30) :
    Calls Tryz.prog 123 #[.pointer (some ⟨g, 0, none⟩), .int .i64 bys, .agg #[.int .i64 y.kind, .string y.own, .int .i64 y.name, .slice alg y.lgn clg, .int .i64 y.pe, .int .i64 y.len, .int .i64 y.hei, .int .i64 y.cl, .bool y.all, .int .i64 y.be, .int .i64 y.unt, .int .i64 y.now]] w fun e w' => EndIs g base N csa cld asa ald (fun _ => False) x 0 0 0 (fun z v => z.ownsRow w.heap.size 212 5 v (rowsL (x.ld k) x.bk (y.lg 0) x.bkn).length (rowList (nthR (rowsL (x.ld k) x.bk (y.lg 0) x.bkn)) (rowsL (x.ld k) x.bk (y.lg 0) x.bkn).length)) L C A B D w e w' := by
  have HK9 : Hid (findIx x.sa (y.lg 0) N = k ∧ k < N ∧ Off.Short x 1048576 ∧ x.san = N ∧ x.ldn = N ∧ x.bkn ≤ 30 ∧ 0 < y.lgn) := ⟨hk, hkn, hs, hxs, hxl, h30, hl1⟩
  clear hk hkn hs hxs hxl h30
  rw [hkd]
  obtain ⟨lb, lo, rfl, hcl⟩ := hlg 0 hl1
  have HO : Hid (OwnOff w base (.slice asa N csa) (.slice ald N cld) (.slice abk R cbk) N N R x L C A B D E) := ho
  have HQ : Hid (w.heap[g]? = some (.cells #[.slice asa N csa, .slice ald N cld, .slice abk R cbk] 66 (0, 0))) := hq
  have HKD : Hid (y.kind = 9) := hkd
  have HXB : Hid (x.bkn = R) := hxb
  have HBW : Hid (base ≤ w.heap.size) := hbw
  have HLG : Hid (IntsAt w (some (⟨lb, lo, none⟩ : Addr)) y.lgn y.lg) := hlg
  have HSL : Hid (SliceOk (some (⟨lb, lo, none⟩ : Addr)) y.lgn clg) := hsl
  have HLO : Hid (0 < y.lgn → ∀ a, (some (⟨lb, lo, none⟩ : Addr)) = some a → a.block < base) := hlo
  clear ho hq hkd hxb hbw hlg hsl hlo
  obtain ⟨pr, hpr⟩ : ∃ pr, pr = priceOf ⟨y.pe, y.len, y.hei, y.cl, y.all, y.be⟩ (y.lgn : Int) := ⟨_, rfl⟩
  have HPR : Hid (pr = priceOf ⟨y.pe, y.len, y.hei, y.cl, y.all, y.be⟩ (y.lgn : Int)) := hpr
  have hb0 : Below w.heap.size w ((w.alloc (.cells #[.int .i64 9, .string y.own, .int .i64 y.name, .slice (some (⟨lb, lo, none⟩ : Addr)) y.lgn clg, .int .i64 y.pe, .int .i64 y.len, .int .i64 y.hei, .int .i64 y.cl, .bool y.all, .int .i64 y.be, .int .i64 y.unt, .int .i64 y.now] 27)).alloc (.cells #[.int .i64 0, .int .i64 0, .int .i64 0, .slice none 0 0] 127)) := push (push (Below.refl _ _) _) _
  have bO := blk_alloc (heap_alloc_new w (.cells #[.int .i64 9, .string y.own, .int .i64 y.name, .slice (some (⟨lb, lo, none⟩ : Addr)) y.lgn clg, .int .i64 y.pe, .int .i64 y.len, .int .i64 y.hei, .int .i64 y.cl, .bool y.all, .int .i64 y.be, .int .i64 y.unt, .int .i64 y.now] 27)) (.cells #[.int .i64 0, .int .i64 0, .int .i64 0, .slice none 0 0] 127)
  have bA := new2 w (.cells #[.int .i64 9, .string y.own, .int .i64 y.name, .slice (some (⟨lb, lo, none⟩ : Addr)) y.lgn clg, .int .i64 y.pe, .int .i64 y.len, .int .i64 y.hei, .int .i64 y.cl, .bool y.all, .int .i64 y.be, .int .i64 y.unt, .int .i64 y.now] 27) (.cells #[.int .i64 0, .int .i64 0, .int .i64 0, .slice none 0 0] 127)
  go_enter Tryz.func123, Tryz.ntmps123
  go_wp2_with fail
  generalize ((w.alloc (.cells #[.int .i64 9, .string y.own, .int .i64 y.name, .slice (some (⟨lb, lo, none⟩ : Addr)) y.lgn clg, .int .i64 y.pe, .int .i64 y.len, .int .i64 y.hei, .int .i64 y.cl, .bool y.all, .int .i64 y.be, .int .i64 y.unt, .int .i64 y.now] 27)).alloc (.cells #[.int .i64 0, .int .i64 0, .int .i64 0, .slice none 0 0] 127)) = W at hb0 bO bA ⊢
  refine (l6Price0_any y.pe y.len y.hei y.cl y.all y.be (y.lgn : Int) _ hpe (by unfold In; omega)).mono ?_
  rintro e V ⟨rfl, hbv⟩
  rw [← hpr]
  clear hpr
  replace hb0 := after hb0 hbv
  replace bO := blk_below bO hbv
  replace bA := blk_below bA hbv
  clear hbv W
  have o0 := blk_cell bO 0 _ rfl
  have hgw : g < w.heap.size := blk_lt HQ.out
  have hlw : lb < w.heap.size := World.block_lt_of_cell? w _ hcl
  have i5 : (0 : Int) < (y.lgn : Int) := by omega
  have KS : Hid (∀ z, Below V.heap.size V z → z.cell? ⟨g, 0, none⟩ = some (.slice asa N csa) ∧ z.cell? ⟨g, 1, none⟩ = some (.slice ald N cld) ∧ z.cell? ⟨g, 2, none⟩ = some (.slice abk R cbk) ∧ z.cell? ⟨w.heap.size, 3, none⟩ = some (.slice (some ⟨lb, lo, none⟩) y.lgn clg) ∧ z.cell? ⟨lb, lo, none⟩ = some (.int .i64 (y.lg 0))) := fun z h => ⟨blk_cell (blk_below HQ.out (after hb0 h)) 0 _ rfl, blk_cell (blk_below HQ.out (after hb0 h)) 1 _ rfl, blk_cell (blk_below HQ.out (after hb0 h)) 2 _ rfl, blk_cell (blk_below bO h) 3 _ rfl, ((after hb0 h).cell (p := ⟨lb, lo, none⟩) hlw).trans hcl⟩
  have KT : Hid (∀ z, Below V.heap.size V z → ∀ c0 c1 c2 c3 u', u' = (((z.setCell ⟨w.heap.size + 1, 0, none⟩ c0).setCell ⟨w.heap.size + 1, 1, none⟩ c1).setCell ⟨w.heap.size + 1, 2, none⟩ c2).setCell ⟨w.heap.size + 1, 3, none⟩ c3 → u'.cell? ⟨g, 0, none⟩ = some (.slice asa N csa) ∧ u'.cell? ⟨g, 1, none⟩ = some (.slice ald N cld) ∧ u'.cell? ⟨g, 2, none⟩ = some (.slice abk R cbk) ∧ u'.cell? ⟨w.heap.size, 3, none⟩ = some (.slice (some ⟨lb, lo, none⟩) y.lgn clg) ∧ u'.cell? ⟨lb, lo, none⟩ = some (.int .i64 (y.lg 0))) := fun z h c0 c1 c2 c3 u' e => by
    subst e
    obtain ⟨a1, a2, a3, a4, a5⟩ := KS.out z h
    have hk := ans_keep z (w.heap.size + 1) c0 c1 c2 c3
    exact ⟨kept_cell hk a1 (by show ¬ _ = _; dsimp only; omega), kept_cell hk a2 (by show ¬ _ = _; dsimp only; omega), kept_cell hk a3 (by show ¬ _ = _; dsimp only; omega), kept_cell hk a4 (by show ¬ _ = _; dsimp only; omega), kept_cell hk a5 (by show ¬ _ = _; dsimp only; omega)⟩
  have HCC : Hid (∀ Z, Below V.heap.size V Z → Calls Tryz.prog 144 #[.agg #[.slice asa N csa, .slice ald N cld, .slice abk R cbk], .int .i64 (y.lg 0)] Z fun e w5 => (∃ av n cv, e = .returned (.slice av n cv) ∧ Hid (w5.ownsRow w.heap.size 212 5 (.slice av n cv) (rowsL (x.ld k) x.bk (y.lg 0) x.bkn).length (rowList (nthR (rowsL (x.ld k) x.bk (y.lg 0) x.bkn)) (rowsL (x.ld k) x.bk (y.lg 0) x.bkn).length))) ∧ Below V.heap.size V w5) := fun Z hZ => by
    have hh := (HO.out.below (after hb0 hZ))
    obtain ⟨q1, q2, q3, q4, q5, q6, _⟩ := HK9.out
    have e1 : Calls Tryz.prog 144 #[.agg #[.slice asa x.san csa, .slice ald x.ldn cld, .slice abk x.bkn cbk], .int .i64 (y.lg 0)] Z _ := specRows_raw x asa ald abk csa cld cbk k (y.lg 0) Z q3 (by rw [q4]; exact hh.sa.at) (by rw [q5]; exact hh.ld.at) (by rw [HXB.out]; exact hh.bk.at) q6 (by rw [q4]; exact q1) (by rw [q4]; exact q2) (by rw [q4, q5])
    rw [q4, q5, HXB.out] at e1
    refine e1.mono ?_
    rintro e w5 ⟨⟨u, rfl, o1⟩, hb5⟩
    rw [HXB.out]
    obtain ⟨av, cv, rfl, _⟩ := own_form o1
    exact ⟨⟨av, _, cv, rfl, own_base o1 (Nat.le_trans hb0.size hZ.size)⟩, after hZ hb5⟩
  have v0 := blk_cell bA 0 _ rfl
  have e0 := blk_free bA 0
  have v1 := blk_cell bA 1 _ rfl
  have e1 := blk_free bA 1
  have v2 := blk_cell bA 2 _ rfl
  have e2 := blk_free bA 2
  have v3 := blk_cell bA 3 _ rfl
  have e3 := blk_free bA 3
  go_upto_region 6 with fail
  go_region_held3 (fun w' => w'.cell? ⟨g, 0, none⟩ = some (.slice asa N csa) ∧ w'.cell? ⟨g, 1, none⟩ = some (.slice ald N cld) ∧ w'.cell? ⟨g, 2, none⟩ = some (.slice abk R cbk) ∧ w'.cell? ⟨w.heap.size, 3, none⟩ = some (.slice (some ⟨lb, lo, none⟩) y.lgn clg) ∧ w'.cell? ⟨lb, lo, none⟩ = some (.int .i64 (y.lg 0)))
    (first | (with_reducible exact KT.out _ HB2.out _ _ _ _ _ rfl) | (refine KS.out _ ?_; repeat (first | exact HB2.out | exact Below.refl _ _ | refine Below.drew ?_ | refine push ?_ _)))
    (first
      | (go_simp; go_at_call 144; (with_reducible refine Calls.mono (HCC.out _ ?_) ?_); (focus (repeat (first | exact Below.refl _ _ | refine Below.drew ?_ | refine push ?_ _))); rintro e u2 ⟨⟨av, n, cv, rfl, HOW⟩, hb2⟩; have HB2 : Hid (Below V.heap.size V u2) := hb2; have bA2 := blk_below bA hb2; have vv0 := blk_cell bA2 0 _ rfl; have ee0 := blk_free bA2 0; have vv1 := blk_cell bA2 1 _ rfl; have ee1 := blk_free bA2 1; have vv2 := blk_cell bA2 2 _ rfl; have ee2 := blk_free bA2 2; have vv3 := blk_cell bA2 3 _ rfl; have ee3 := blk_free bA2 3; dsimp only))
  obtain ⟨HOF, hQF, HKF, bF⟩ := end_fin (T := (fun _ => False)) (Kept.of_below (after hb0 HB2.out)) (HO.out.below (after hb0 HB2.out)) (blk_below HQ.out (after hb0 HB2.out)) bA2 (by omega) (.int .i64 0) (.int .i64 0) (.int .i64 0) (.slice av n cv) rfl
  have HRW : Hid _ := (ans_keep u2 (w.heap.size + 1) (.int .i64 0) (.int .i64 0) (.int .i64 0) (.slice av n cv)).own HOW.out (own_notE HOW.out bA2 (by decide))
  have HEND : Hid _ := HOF
  have HEQ : Hid _ := hQF
  have HEK : Hid _ := HKF
  clear HOF hQF HKF
  go_wp2
  have x0 := blk_cell bF 0 _ rfl
  have x1 := blk_cell bF 1 _ rfl
  have x2 := blk_cell bF 2 _ rfl
  have x3 := blk_cell bF 3 _ rfl
  refine bodyPost_ret (v := .agg #[.int .i64 0, .int .i64 0, .int .i64 0, .slice av n cv]) (by simp [results, Tryz.results123, go_sem, x0, x1, x2, x3]) rfl ?_
  have hR := HXB.out
  subst hR
  exact ⟨_, _, _, _, rfl, HRW.out, HEND.out, HEQ.out, HEK.out⟩

end Go.Proofs.YtfallpinmhbemaaGreatDoor

namespace Go.Proofs.YtfallpinmhbemaaGreatDoor
open Go.RowKit

set_option maxHeartbeats 25600000 in
set_option maxRecDepth 100000 in
theorem l7End_2 (g base N R csa cld cbk clg : Nat) (asa ald abk alg : Option Addr) (bys : Int) (y : OpD) (x : Off) (L C A B D E : Nat → Value) (w : World) (hq : w.heap[g]? = some (.cells #[.slice asa N csa, .slice ald N cld, .slice abk R cbk] 66 (0, 0))) (ho : OwnOff w base (.slice asa N csa) (.slice ald N cld) (.slice abk R cbk) N N R x L C A B D E) (hxb : x.bkn = R) (hbw : base ≤ w.heap.size) (hkd : y.kind = 2) (hpe : In y.pe 0 20) (hln : y.lgn ≤ 3) (hlg : IntsAt w alg y.lgn y.lg) (hsl : SliceOk alg y.lgn clg) (hlo : 0 < y.lgn → ∀ a, alg = some a → a.block < base) (hR : R < 30) :
    Calls Tryz.prog 123 #[.pointer (some ⟨g, 0, none⟩), .int .i64 bys, .agg #[.int .i64 y.kind, .string y.own, .int .i64 y.name, .slice alg y.lgn clg, .int .i64 y.pe, .int .i64 y.len, .int .i64 y.hei, .int .i64 y.cl, .bool y.all, .int .i64 y.be, .int .i64 y.unt, .int .i64 y.now]] w fun e w' => EndIs g base N csa cld asa ald (fun b => b = g ∨ (Value.slice abk R cbk).ownBlock = some b) { x with bkn := R + 1, bk := setB x.bk R (newBook R bys y) } 0 ((R : Int) + 1) (priceOf ⟨y.pe, y.len, y.hei, y.cl, y.all, y.be⟩ (y.lgn : Int)) (fun _ v => v = .slice none 0 0) L C A B D w e w' := by
  obtain ⟨n0, ni, nz0, nz1, nz2⟩ := info_parts Tryz.infoInt
  obtain ⟨r0, ri, rz0, rz1, rz2⟩ := info_parts Tryz.infoBookingO
  rw [hkd]
  have HO : Hid (OwnOff w base (.slice asa N csa) (.slice ald N cld) (.slice abk R cbk) N N R x L C A B D E) := ho
  have HQ : Hid (w.heap[g]? = some (.cells #[.slice asa N csa, .slice ald N cld, .slice abk R cbk] 66 (0, 0))) := hq
  have HKD : Hid (y.kind = 2) := hkd
  have HXB : Hid (x.bkn = R) := hxb
  have HBW : Hid (base ≤ w.heap.size) := hbw
  have HLG : Hid (IntsAt w alg y.lgn y.lg) := hlg
  have HSL : Hid (SliceOk alg y.lgn clg) := hsl
  have HLO : Hid (0 < y.lgn → ∀ a, alg = some a → a.block < base) := hlo
  clear ho hq hkd hxb hbw hlg hsl hlo
  obtain ⟨pr, hpr⟩ : ∃ pr, pr = priceOf ⟨y.pe, y.len, y.hei, y.cl, y.all, y.be⟩ (y.lgn : Int) := ⟨_, rfl⟩
  have HPR : Hid (pr = priceOf ⟨y.pe, y.len, y.hei, y.cl, y.all, y.be⟩ (y.lgn : Int)) := hpr
  have hb0 : Below w.heap.size w ((w.alloc (.cells #[.int .i64 2, .string y.own, .int .i64 y.name, .slice alg y.lgn clg, .int .i64 y.pe, .int .i64 y.len, .int .i64 y.hei, .int .i64 y.cl, .bool y.all, .int .i64 y.be, .int .i64 y.unt, .int .i64 y.now] 27)).alloc (.cells #[.int .i64 0, .int .i64 0, .int .i64 0, .slice none 0 0] 127)) := push (push (Below.refl _ _) _) _
  have bO := blk_alloc (heap_alloc_new w (.cells #[.int .i64 2, .string y.own, .int .i64 y.name, .slice alg y.lgn clg, .int .i64 y.pe, .int .i64 y.len, .int .i64 y.hei, .int .i64 y.cl, .bool y.all, .int .i64 y.be, .int .i64 y.unt, .int .i64 y.now] 27)) (.cells #[.int .i64 0, .int .i64 0, .int .i64 0, .slice none 0 0] 127)
  have bA := new2 w (.cells #[.int .i64 2, .string y.own, .int .i64 y.name, .slice alg y.lgn clg, .int .i64 y.pe, .int .i64 y.len, .int .i64 y.hei, .int .i64 y.cl, .bool y.all, .int .i64 y.be, .int .i64 y.unt, .int .i64 y.now] 27) (.cells #[.int .i64 0, .int .i64 0, .int .i64 0, .slice none 0 0] 127)
  go_enter Tryz.func123, Tryz.ntmps123
  go_wp2_with fail
  generalize ((w.alloc (.cells #[.int .i64 2, .string y.own, .int .i64 y.name, .slice alg y.lgn clg, .int .i64 y.pe, .int .i64 y.len, .int .i64 y.hei, .int .i64 y.cl, .bool y.all, .int .i64 y.be, .int .i64 y.unt, .int .i64 y.now] 27)).alloc (.cells #[.int .i64 0, .int .i64 0, .int .i64 0, .slice none 0 0] 127)) = W at hb0 bO bA ⊢
  refine (l6Price0_any y.pe y.len y.hei y.cl y.all y.be (y.lgn : Int) _ hpe (by unfold In; omega)).mono ?_
  rintro e V ⟨rfl, hbv⟩
  rw [← hpr]
  clear hpr
  replace hb0 := after hb0 hbv
  replace bO := blk_below bO hbv
  replace bA := blk_below bA hbv
  clear hbv W
  have o0 := blk_cell bO 0 _ rfl
  have e30 : ((R : Int) == 30) = false := by simp; omega
  have e31 : (R == 30) = false := by simp; omega
  have hwr : IntKind.i64.wrap ((R : Int) + 1) = (R : Int) + 1 := by rw [IntKind.wrap_i64]; omega
  have zq := blk_cell (blk_below HQ.out hb0) 2 _ rfl
  have HLV : Hid (∀ z, Below V.heap.size V z → IntsAt z alg y.lgn y.lg) := fun z h => HLG.out.below (after hb0 h)
  have KS : Hid (∀ z, Below V.heap.size V z → z.cell? ⟨g, 2, none⟩ = some (.slice abk R cbk) ∧ z.cell? ⟨w.heap.size, 1, none⟩ = some (.string y.own) ∧ z.cell? ⟨w.heap.size, 3, none⟩ = some (.slice alg y.lgn clg) ∧ z.cell? ⟨w.heap.size, 4, none⟩ = some (.int .i64 y.pe) ∧ z.cell? ⟨w.heap.size, 5, none⟩ = some (.int .i64 y.len) ∧ z.cell? ⟨w.heap.size, 6, none⟩ = some (.int .i64 y.hei) ∧ z.cell? ⟨w.heap.size, 7, none⟩ = some (.int .i64 y.cl) ∧ z.cell? ⟨w.heap.size, 8, none⟩ = some (.bool y.all) ∧ z.cell? ⟨w.heap.size, 9, none⟩ = some (.int .i64 y.be)) := fun z h => ⟨blk_cell (blk_below HQ.out (after hb0 h)) 2 _ rfl, blk_cell (blk_below bO h) 1 _ rfl, blk_cell (blk_below bO h) 3 _ rfl, blk_cell (blk_below bO h) 4 _ rfl, blk_cell (blk_below bO h) 5 _ rfl, blk_cell (blk_below bO h) 6 _ rfl, blk_cell (blk_below bO h) 7 _ rfl, blk_cell (blk_below bO h) 8 _ rfl, blk_cell (blk_below bO h) 9 _ rfl⟩
  go_upto_region 11 with fail
  refine wp_region_z 18 19 (fun w' => w'.cell? ⟨g, 2, none⟩ = some (.slice abk R cbk) ∧ w'.cell? ⟨w.heap.size, 1, none⟩ = some (.string y.own) ∧ w'.cell? ⟨w.heap.size, 3, none⟩ = some (.slice alg y.lgn clg) ∧ w'.cell? ⟨w.heap.size, 4, none⟩ = some (.int .i64 y.pe) ∧ w'.cell? ⟨w.heap.size, 5, none⟩ = some (.int .i64 y.len) ∧ w'.cell? ⟨w.heap.size, 6, none⟩ = some (.int .i64 y.hei) ∧ w'.cell? ⟨w.heap.size, 7, none⟩ = some (.int .i64 y.cl) ∧ w'.cell? ⟨w.heap.size, 8, none⟩ = some (.bool y.all) ∧ w'.cell? ⟨w.heap.size, 9, none⟩ = some (.int .i64 y.be)) rfl (by kernel_rfl) (KS.out _ (Below.drew (Below.refl _ _))) (fun hS => ?_)
  simp only [List.replicate_succ, List.replicate_zero]
  (refine wpAnyZ_takeL (i := 0) (v := ?_) rfl (by kernel_rfl) (fun _ _ _ h => h) (Or.inl ⟨by rfl, ?_⟩) (by assumption) ?_; rotate_left; (focus (intro w' hSw; (try dsimp only at hSw); go_simp; try with_reducible rfl)); simp only [Act.put, List.setIfInBounds_toArray, List.set_cons_zero, List.set_cons_succ])
  (refine wpAnyZ_takeL (i := 1) (v := ?_) rfl (by kernel_rfl) (fun _ _ _ h => h) (Or.inl ⟨by rfl, ?_⟩) (by assumption) ?_; rotate_left; (focus (intro w' hSw; (try dsimp only at hSw); go_simp; try with_reducible rfl)); simp only [Act.put, List.setIfInBounds_toArray, List.set_cons_zero, List.set_cons_succ])
  (refine wpAnyZ_takeL (i := 2) (v := ?_) rfl (by kernel_rfl) (fun _ _ _ h => h) (Or.inl ⟨by rfl, ?_⟩) (by assumption) ?_; rotate_left; (focus (intro w' hSw; (try dsimp only at hSw); go_simp; try with_reducible rfl)); simp only [Act.put, List.setIfInBounds_toArray, List.set_cons_zero, List.set_cons_succ])
  (refine wpAnyZ_takeL (i := 3) (v := ?_) rfl (by kernel_rfl) (fun _ _ _ h => h) (Or.inl ⟨by rfl, ?_⟩) (by assumption) ?_; rotate_left; (focus (intro w' hSw; (try dsimp only at hSw); go_simp; try with_reducible rfl)); simp only [Act.put, List.setIfInBounds_toArray, List.set_cons_zero, List.set_cons_succ])
  (refine wpAnyZ_takeL (i := 4) (v := ?_) rfl (by kernel_rfl) (fun _ _ _ h => h) (Or.inl ⟨by rfl, ?_⟩) (by assumption) ?_; rotate_left; (focus (intro w' hSw; (try dsimp only at hSw); go_simp; try with_reducible rfl)); simp only [Act.put, List.setIfInBounds_toArray, List.set_cons_zero, List.set_cons_succ])
  (refine wpAnyZ_takeL (i := 5) (v := ?_) rfl (by kernel_rfl) (fun _ _ _ h => h) (Or.inl ⟨by rfl, ?_⟩) (by assumption) ?_; rotate_left; (focus (intro w' hSw; (try dsimp only at hSw); go_simp; try with_reducible rfl)); simp only [Act.put, List.setIfInBounds_toArray, List.set_cons_zero, List.set_cons_succ])
  (refine wpAnyZ_takeL (i := 6) (v := ?_) rfl (by kernel_rfl) (fun _ _ _ h => h) (Or.inl ⟨by rfl, ?_⟩) (by assumption) ?_; rotate_left; (focus (intro w' hSw; (try dsimp only at hSw); go_simp; try with_reducible rfl)); simp only [Act.put, List.setIfInBounds_toArray, List.set_cons_zero, List.set_cons_succ])
  (refine wpAnyZ_takeL (i := 7) (v := ?_) rfl (by kernel_rfl) (fun _ _ _ h => h) (Or.inl ⟨by rfl, ?_⟩) (by assumption) ?_; rotate_left; (focus (intro w' hSw; (try dsimp only at hSw); go_simp; try with_reducible rfl)); simp only [Act.put, List.setIfInBounds_toArray, List.set_cons_zero, List.set_cons_succ])
  (refine wpAnyZ_takeL (i := 8) (v := ?_) rfl (by kernel_rfl) (fun _ _ _ h => h) (Or.inl ⟨by rfl, ?_⟩) (by assumption) ?_; rotate_left; (focus (intro w' hSw; (try dsimp only at hSw); go_simp; try with_reducible rfl)); simp only [Act.put, List.setIfInBounds_toArray, List.set_cons_zero, List.set_cons_succ])
  (refine wpAnyZ_takeL (i := 10) (v := ?_) rfl (by kernel_rfl) (fun _ _ _ h => h) (Or.inl ⟨by rfl, ?_⟩) (by assumption) ?_; rotate_left; (focus (intro w' hSw; (try dsimp only at hSw); go_simp; try with_reducible rfl)); simp only [Act.put, List.setIfInBounds_toArray, List.set_cons_zero, List.set_cons_succ])
  (refine wpAnyZ_takeL (i := 11) (v := ?_) rfl (by kernel_rfl) (fun _ _ _ h => h) (Or.inl ⟨by rfl, ?_⟩) (by assumption) ?_; rotate_left; (focus (intro w' hSw; (try dsimp only at hSw); go_simp; try with_reducible rfl)); simp only [Act.put, List.setIfInBounds_toArray, List.set_cons_zero, List.set_cons_succ])
  (refine wpAnyZ_takeL (i := 13) (v := ?_) rfl (by kernel_rfl) (fun _ _ _ h => h) (Or.inl ⟨by rfl, ?_⟩) (by assumption) ?_; rotate_left; (focus (intro w' hSw; (try dsimp only at hSw); go_simp; try with_reducible rfl)); simp only [Act.put, List.setIfInBounds_toArray, List.set_cons_zero, List.set_cons_succ])
  (refine wpAnyZ_takeL (i := 14) (v := ?_) rfl (by kernel_rfl) (fun _ _ _ h => h) (Or.inl ⟨by rfl, ?_⟩) (by assumption) ?_; rotate_left; (focus (intro w' hSw; (try dsimp only at hSw); go_simp; try with_reducible rfl)); simp only [Act.put, List.setIfInBounds_toArray, List.set_cons_zero, List.set_cons_succ])
  (refine wpAnyZ_takeL (i := 15) (v := ?_) rfl (by kernel_rfl) (fun _ _ _ h => h) (Or.inl ⟨by rfl, ?_⟩) (by assumption) ?_; rotate_left; (focus (intro w' hSw; (try dsimp only at hSw); go_simp; try with_reducible rfl)); simp only [Act.put, List.setIfInBounds_toArray, List.set_cons_zero, List.set_cons_succ])
  refine wpAnyZ_ready (rs := [9, 17]) (by kernel_rfl) (by simp) ?_
  refine AllReadyZ.consL rfl (fun K hK => ?_) ?_
  · go_simp; refine hK.out _ _ (KS.out _ (by repeat (first | with_reducible exact HB1.out | with_reducible exact Below.refl _ _ | with_reducible refine Below.drew ?_ | with_reducible refine push ?_ _))) (fun hS => ?_)
    clear hK K
    simp only [List.set_cons_zero, List.set_cons_succ]
    refine wpAnyZ_ready (rs := [12, 17]) (by kernel_rfl) (by simp) ?_
    refine AllReadyZ.consL rfl (fun K hK => ?_) ?_
    · refine step_append_own0 (by rfl) (.tmp 53) (.tmp 55) 23 (by rfl) 3 n0 (.int .i64 0) 1 8 Tryz.underlying23 ni nz0 nz1 nz2 rfl (by decide) V.heap.size _ (by rfl) (by first | exact Nat.le_refl _ | omega | (simp; done) | (simp; omega)) (by repeat (first | ((with_reducible refine new_at _ _ _ ?_); (first | with_reducible rfl | (simp; done))) | with_reducible refine blk_drew ?_ | with_reducible refine blk_alloc ?_ _)) alg y.lgn clg (intList y.lg y.lgn) (by rfl) HSL.out.2.2 (by rw [intList_length, Nat.mul_one]) (ints_cellsO (HLV.out _ (by repeat (first | exact Below.refl _ _ | refine Below.drew ?_ | refine push ?_ _)))) (intList_one _ _) (by unfold maxLen; omega) (by omega) ?_; intro p1 q1 u1 hg1 hr1 hat1; clear hat1; have HB1 : Hid (Below V.heap.size V u1) := (by show Below _ _ _; refine after ?_ (grown_below hg1); exact (by repeat (first | exact Below.refl _ _ | refine Below.drew ?_ | refine push ?_ _))); refine hK.out _ _ (KS.out _ HB1.out) (fun hS => ?_)
      clear hK K
      simp only [Act.put, List.setIfInBounds_toArray, List.set_cons_zero, List.set_cons_succ]
      (refine wpAnyZ_takeL (i := 16) (v := ?_) rfl (by kernel_rfl) (fun _ _ _ h => h) (Or.inl ⟨by rfl, ?_⟩) (by assumption) ?_; rotate_left; (focus (intro w' hSw; (try dsimp only at hSw); go_simp; try with_reducible rfl)); simp only [Act.put, List.setIfInBounds_toArray, List.set_cons_zero, List.set_cons_succ])
      refine wpAnyZ_ready (rs := [17]) (by kernel_rfl) (by simp) ?_
      refine AllReadyZ.consL rfl (fun K hK => ?_) ?_
      · go_simp; refine hK.out _ _ (KS.out _ (by repeat (first | with_reducible exact HB1.out | with_reducible exact Below.refl _ _ | with_reducible refine Below.drew ?_ | with_reducible refine push ?_ _))) (fun hS => ?_)
        clear hK K
        simp only [List.set_cons_zero, List.set_cons_succ]
        refine wpAnyZ_ready (rs := [18]) (by kernel_rfl) (by simp) ?_
        refine AllReadyZ.lastL rfl (fun K hK => ?_)
        go_simp
        refine hK.out _ _ ?_
        clear hK K
        refine wpAnyZ_done (by kernel_rfl) ?_ _
        have bBF := heap_alloc_new u1 (.cells #[.int .i64 ((R : Int) + 1), .int .i64 bys, .string y.own, .slice p1 y.lgn q1, .int .i64 y.pe, .int .i64 y.len, .int .i64 y.hei, .int .i64 y.cl, .bool y.all, .int .i64 y.be, .int .i64 2, .int .i64 0, .int .i64 pr] 131)
        have hbF := push HB1.out (.cells #[.int .i64 ((R : Int) + 1), .int .i64 bys, .string y.own, .slice p1 y.lgn q1, .int .i64 y.pe, .int .i64 y.len, .int .i64 y.hei, .int .i64 y.cl, .bool y.all, .int .i64 y.be, .int .i64 2, .int .i64 0, .int .i64 pr] 131)
        have HRF : Hid _ := own_below (push (Below.refl _ _) (.cells #[.int .i64 ((R : Int) + 1), .int .i64 bys, .string y.own, .slice p1 y.lgn q1, .int .i64 y.pe, .int .i64 y.len, .int .i64 y.hei, .int .i64 y.cl, .bool y.all, .int .i64 y.be, .int .i64 2, .int .i64 0, .int .i64 pr] 131)) hr1
        generalize u1.alloc (.cells #[.int .i64 ((R : Int) + 1), .int .i64 bys, .string y.own, .slice p1 y.lgn q1, .int .i64 y.pe, .int .i64 y.len, .int .i64 y.hei, .int .i64 y.cl, .bool y.all, .int .i64 y.be, .int .i64 2, .int .i64 0, .int .i64 pr] 131) = F at bBF hbF HRF ⊢
        have hbbV : V.heap.size ≤ u1.heap.size := HB1.out.size
        generalize u1.heap.size = bb at bBF hbbV ⊢
        clear hS hg1 hr1 HB1
        have hbw := after hb0 hbF
        have bOF := blk_below bO hbF
        have bAF := blk_below bA hbF
        have o0 := blk_cell bOF 0 _ rfl
        have hV1 : w.heap.size + 1 < V.heap.size := blk_lt bA
        have c10 := blk_cell bBF 10 _ rfl
        have c11 := blk_cell bBF 11 _ rfl
        have f10 := blk_free bBF 10
        have f11 := blk_free bBF 11
        have o10 : ∀ v, (F.setCell ⟨bb, 10, none⟩ v).cell? ⟨w.heap.size, 10, none⟩ = some (.int .i64 y.unt) := fun v => blk_cell (blk_set_other (b' := bb) bOF 10 v (by omega)) 10 _ rfl
        go_upto_region 15 with fail
        have bB2 : ((F.setCell ⟨bb, 10, none⟩ (.int .i64 1)).setCell ⟨bb, 11, none⟩ (.int .i64 y.unt)).heap[bb]? = some (.cells #[.int .i64 ((R : Int) + 1), .int .i64 bys, .string y.own, .slice p1 y.lgn q1, .int .i64 y.pe, .int .i64 y.len, .int .i64 y.hei, .int .i64 y.cl, .bool y.all, .int .i64 y.be, .int .i64 1, .int .i64 y.unt, .int .i64 pr] 131 (0, 0)) := by simpa using blk_set (blk_set bBF 10 (.int .i64 1)) 11 (.int .i64 y.unt)
        have hb2 : Below V.heap.size V ((F.setCell ⟨bb, 10, none⟩ (.int .i64 1)).setCell ⟨bb, 11, none⟩ (.int .i64 y.unt)) := Below.setCell (p := ⟨bb, 11, none⟩) (Below.setCell (p := ⟨bb, 10, none⟩) hbF hbbV _) hbbV _
        have HR2 : Hid (((F.setCell ⟨bb, 10, none⟩ (.int .i64 1)).setCell ⟨bb, 11, none⟩ (.int .i64 y.unt)).ownsRow V.heap.size 3 1 (.slice p1 y.lgn q1) y.lgn (intList y.lg y.lgn)) := (((Kept.refl F (fun b => b = bb)).set (a := ⟨bb, 10, none⟩) rfl (.int .i64 1)).set (a := ⟨bb, 11, none⟩) rfl (.int .i64 y.unt)).own HRF.out (own_notE HRF.out bBF (by decide))
        generalize (F.setCell ⟨bb, 10, none⟩ (.int .i64 1)).setCell ⟨bb, 11, none⟩ (.int .i64 y.unt) = F2 at bB2 hb2 HR2 ⊢
        clear c10 c11 f10 f11 o0 o10
        clear bBF hbF HRF hbw bOF bAF F
        have hbw := after hb0 hb2
        have bOF := blk_below bO hb2
        have bAF := blk_below bA hb2
        have qF := blk_below HQ.out hbw
        have hgw : g < w.heap.size := blk_lt HQ.out
        have KS2 : Hid (∀ z : World, z.heap[g]? = some (.cells #[.slice asa N csa, .slice ald N cld, .slice abk R cbk] 66 (0, 0)) → z.heap[bb]? = some (.cells #[.int .i64 ((R : Int) + 1), .int .i64 bys, .string y.own, .slice p1 y.lgn q1, .int .i64 y.pe, .int .i64 y.len, .int .i64 y.hei, .int .i64 y.cl, .bool y.all, .int .i64 y.be, .int .i64 1, .int .i64 y.unt, .int .i64 pr] 131 (0, 0)) → z.cell? ⟨g, 2, none⟩ = some (.slice abk R cbk) ∧ z.cell? ⟨bb, 0, none⟩ = some (.int .i64 ((R : Int) + 1)) ∧ z.cell? ⟨bb, 1, none⟩ = some (.int .i64 bys) ∧ z.cell? ⟨bb, 2, none⟩ = some (.string y.own) ∧ z.cell? ⟨bb, 3, none⟩ = some (.slice p1 y.lgn q1) ∧ z.cell? ⟨bb, 4, none⟩ = some (.int .i64 y.pe) ∧ z.cell? ⟨bb, 5, none⟩ = some (.int .i64 y.len) ∧ z.cell? ⟨bb, 6, none⟩ = some (.int .i64 y.hei) ∧ z.cell? ⟨bb, 7, none⟩ = some (.int .i64 y.cl) ∧ z.cell? ⟨bb, 8, none⟩ = some (.bool y.all) ∧ z.cell? ⟨bb, 9, none⟩ = some (.int .i64 y.be) ∧ z.cell? ⟨bb, 10, none⟩ = some (.int .i64 1) ∧ z.cell? ⟨bb, 11, none⟩ = some (.int .i64 y.unt) ∧ z.cell? ⟨bb, 12, none⟩ = some (.int .i64 pr)) := fun z h1 h2 => ⟨blk_cell h1 2 _ rfl, blk_cell h2 0 _ rfl, blk_cell h2 1 _ rfl, blk_cell h2 2 _ rfl, blk_cell h2 3 _ rfl, blk_cell h2 4 _ rfl, blk_cell h2 5 _ rfl, blk_cell h2 6 _ rfl, blk_cell h2 7 _ rfl, blk_cell h2 8 _ rfl, blk_cell h2 9 _ rfl, blk_cell h2 10 _ rfl, blk_cell h2 11 _ rfl, blk_cell h2 12 _ rfl⟩
        refine wp_region_z 10 11 (fun w' => w'.cell? ⟨g, 2, none⟩ = some (.slice abk R cbk) ∧ w'.cell? ⟨bb, 0, none⟩ = some (.int .i64 ((R : Int) + 1)) ∧ w'.cell? ⟨bb, 1, none⟩ = some (.int .i64 bys) ∧ w'.cell? ⟨bb, 2, none⟩ = some (.string y.own) ∧ w'.cell? ⟨bb, 3, none⟩ = some (.slice p1 y.lgn q1) ∧ w'.cell? ⟨bb, 4, none⟩ = some (.int .i64 y.pe) ∧ w'.cell? ⟨bb, 5, none⟩ = some (.int .i64 y.len) ∧ w'.cell? ⟨bb, 6, none⟩ = some (.int .i64 y.hei) ∧ w'.cell? ⟨bb, 7, none⟩ = some (.int .i64 y.cl) ∧ w'.cell? ⟨bb, 8, none⟩ = some (.bool y.all) ∧ w'.cell? ⟨bb, 9, none⟩ = some (.int .i64 y.be) ∧ w'.cell? ⟨bb, 10, none⟩ = some (.int .i64 1) ∧ w'.cell? ⟨bb, 11, none⟩ = some (.int .i64 y.unt) ∧ w'.cell? ⟨bb, 12, none⟩ = some (.int .i64 pr)) rfl (by kernel_rfl) (KS2.out _ qF bB2) (fun hS => ?_)
        simp only [List.replicate_succ, List.replicate_zero]
        (refine wpAnyZ_takeL (i := 0) (v := ?_) rfl (by kernel_rfl) (fun _ _ _ h => h) (Or.inl ⟨by rfl, ?_⟩) (by assumption) ?_; rotate_left; (focus (intro w' hSw; (try dsimp only at hSw); go_simp; try with_reducible rfl)); simp only [Act.put, List.setIfInBounds_toArray, List.set_cons_zero, List.set_cons_succ])
        (refine wpAnyZ_takeL (i := 1) (v := ?_) rfl (by kernel_rfl) (fun _ _ _ h => h) (Or.inl ⟨by rfl, ?_⟩) (by assumption) ?_; rotate_left; (focus (intro w' hSw; (try dsimp only at hSw); go_simp; try with_reducible rfl)); simp only [Act.put, List.setIfInBounds_toArray, List.set_cons_zero, List.set_cons_succ])
        (refine wpAnyZ_takeL (i := 2) (v := ?_) rfl (by kernel_rfl) (fun _ _ _ h => h) (Or.inl ⟨by rfl, ?_⟩) (by assumption) ?_; rotate_left; (focus (intro w' hSw; (try dsimp only at hSw); go_simp; try with_reducible rfl)); simp only [Act.put, List.setIfInBounds_toArray, List.set_cons_zero, List.set_cons_succ])
        (refine wpAnyZ_takeL (i := 3) (v := ?_) rfl (by kernel_rfl) (fun _ _ _ h => h) (Or.inl ⟨by rfl, ?_⟩) (by assumption) ?_; rotate_left; (focus (intro w' hSw; (try dsimp only at hSw); go_simp; try with_reducible rfl)); simp only [Act.put, List.setIfInBounds_toArray, List.set_cons_zero, List.set_cons_succ])
        (refine wpAnyZ_takeL (i := 4) (v := ?_) rfl (by kernel_rfl) (fun _ _ _ h => h) (Or.inl ⟨by rfl, ?_⟩) (by assumption) ?_; rotate_left; (focus (intro w' hSw; (try dsimp only at hSw); go_simp; try with_reducible rfl)); simp only [Act.put, List.setIfInBounds_toArray, List.set_cons_zero, List.set_cons_succ])
        (refine wpAnyZ_takeL (i := 5) (v := ?_) rfl (by kernel_rfl) (fun _ _ _ h => h) (Or.inl ⟨by rfl, ?_⟩) (by assumption) ?_; rotate_left; (focus (intro w' hSw; (try dsimp only at hSw); go_simp; try with_reducible rfl)); simp only [Act.put, List.setIfInBounds_toArray, List.set_cons_zero, List.set_cons_succ])
        refine wpAnyZ_ready (rs := [6]) (by kernel_rfl) (by simp) ?_
        refine AllReadyZ.consL rfl (fun K hK => ?_) AllReadyZ.nil
        refine step_buildSlice (by rfl) 64 131 1 #[(0, .tmp 73)] (by rfl) Tryz.underlying64 #[.int .i64 ((R : Int) + 1), .int .i64 bys, .string y.own, .slice p1 y.lgn q1, .int .i64 y.pe, .int .i64 y.len, .int .i64 y.hei, .int .i64 y.cl, .bool y.all, .int .i64 y.be, .int .i64 1, .int .i64 y.unt, .int .i64 pr] (Eq.trans (congrArg (Program.builtSlice Tryz.prog 131 1) (show _ = [(0, Value.agg #[.int .i64 ((R : Int) + 1), .int .i64 bys, .string y.own, .slice p1 y.lgn q1, .int .i64 y.pe, .int .i64 y.len, .int .i64 y.hei, .int .i64 y.cl, .bool y.all, .int .i64 y.be, .int .i64 1, .int .i64 y.unt, .int .i64 pr])] from by first | (simp [go_sem]; done) | rfl | kernel_rfl)) (builtBook ((R : Int) + 1) bys y.pe y.len y.hei y.cl y.be 1 y.unt pr y.own y.all p1 y.lgn q1)) ?_
        refine hK.out _ _ (KS2.out _ (blk_alloc qF _) (blk_alloc bB2 _)) (fun hS => ?_)
        clear hK K
        simp only [Act.put, List.setIfInBounds_toArray, List.set_cons_zero, List.set_cons_succ]
        have hszF : F2.drew.heap.size = F2.heap.size := rfl
        refine wpAnyZ_ready (rs := [7]) (by kernel_rfl) (by simp) ?_
        refine AllReadyZ.consL rfl (fun K hK => ?_) AllReadyZ.nil
        have HEa : Hid (OwnOff (F2.drew.alloc (.cells #[.int .i64 ((R : Int) + 1), .int .i64 bys, .string y.own, .slice p1 y.lgn q1, .int .i64 y.pe, .int .i64 y.len, .int .i64 y.hei, .int .i64 y.cl, .bool y.all, .int .i64 y.be, .int .i64 1, .int .i64 y.unt, .int .i64 pr] 131)) base (.slice asa N csa) (.slice ald N cld) (.slice abk R cbk) N N R x L C A B D E) := HO.out.below (push (Below.drew hbw) _)
        refine step_append_lies _ (by rfl) (.tmp 72) (.tmp 74) 64 (by rfl) base 131 r0 (.agg #[.int .i64 0, .int .i64 0, .string ⟨#[]⟩, .slice none 0 0, .int .i64 0, .int .i64 0, .int .i64 0, .int .i64 0, .bool false, .int .i64 0, .int .i64 0, .int .i64 0, .int .i64 0]) 13 128 Tryz.underlying64 ri rz0 rz1 rz2 rfl (by decide) _ R (bkRow x.bk E R) (by rfl) HEa.out.bk.row _ 1 1 [.int .i64 ((R : Int) + 1), .int .i64 bys, .string y.own, .slice p1 y.lgn q1, .int .i64 y.pe, .int .i64 y.len, .int .i64 y.hei, .int .i64 y.cl, .bool y.all, .int .i64 y.be, .int .i64 1, .int .i64 y.unt, .int .i64 pr] (by rfl) (by rfl) (World.news_of_block (cs := #[.int .i64 ((R : Int) + 1), .int .i64 bys, .string y.own, .slice p1 y.lgn q1, .int .i64 y.pe, .int .i64 y.len, .int .i64 y.hei, .int .i64 y.cl, .bool y.all, .int .i64 y.be, .int .i64 1, .int .i64 y.unt, .int .i64 pr]) (t := 131) (fr := (0, 0)) (heap_alloc_new F2.drew _)) (by intro u hu; simp at hu; rcases hu with rfl | rfl | rfl | rfl | rfl | rfl | rfl | rfl | rfl | rfl | rfl | rfl | rfl <;> rfl) (by decide) (by unfold maxLen; omega) (by omega) (by have := HBW.out; have := hbw.size; simp; omega) _ rfl ?_
        intro g2 cap2 u2 ho2 hg2 hat2 hlt2
        have qU := (kept_row hg2).blk (blk_alloc (blk_drew qF) (.cells #[.int .i64 ((R : Int) + 1), .int .i64 bys, .string y.own, .slice p1 y.lgn q1, .int .i64 y.pe, .int .i64 y.len, .int .i64 y.hei, .int .i64 y.cl, .bool y.all, .int .i64 y.be, .int .i64 1, .int .i64 y.unt, .int .i64 pr] 131)) (fun e => by obtain ⟨cs, e2⟩ := own_blockE HEa.out.bk.row g e; rw [blk_alloc (blk_drew qF) (.cells #[.int .i64 ((R : Int) + 1), .int .i64 bys, .string y.own, .slice p1 y.lgn q1, .int .i64 y.pe, .int .i64 y.len, .int .i64 y.hei, .int .i64 y.cl, .bool y.all, .int .i64 y.be, .int .i64 1, .int .i64 y.unt, .int .i64 pr] 131)] at e2; simp at e2)
        have bU := (kept_row hg2).blk (blk_alloc (blk_drew bB2) (.cells #[.int .i64 ((R : Int) + 1), .int .i64 bys, .string y.own, .slice p1 y.lgn q1, .int .i64 y.pe, .int .i64 y.len, .int .i64 y.hei, .int .i64 y.cl, .bool y.all, .int .i64 y.be, .int .i64 1, .int .i64 y.unt, .int .i64 pr] 131)) (fun e => by have h1 := (HO.out.bk.row.lt bb e).2; have := hb0.size; omega)
        have aU := (kept_row hg2).blk (blk_alloc (blk_drew bAF) (.cells #[.int .i64 ((R : Int) + 1), .int .i64 bys, .string y.own, .slice p1 y.lgn q1, .int .i64 y.pe, .int .i64 y.len, .int .i64 y.hei, .int .i64 y.cl, .bool y.all, .int .i64 y.be, .int .i64 1, .int .i64 y.unt, .int .i64 pr] 131)) (fun e => by have h1 := (HO.out.bk.row.lt _ e).2; omega)
        refine hK.out _ _ (KS2.out _ qU bU) (fun hS => ?_)
        clear hK K
        simp only [Act.put, List.setIfInBounds_toArray, List.set_cons_zero, List.set_cons_succ]
        (refine wpAnyZ_takeL (i := 8) (v := ?_) rfl (by kernel_rfl) (fun _ _ _ h => h) (Or.inl ⟨by rfl, ?_⟩) (by assumption) ?_; rotate_left; (focus (intro w' hSw; (try dsimp only at hSw); go_simp; try with_reducible rfl)); simp only [Act.put, List.setIfInBounds_toArray, List.set_cons_zero, List.set_cons_succ])
        (refine wpAnyZ_takeL (i := 9) (v := ?_) rfl (by kernel_rfl) (fun _ _ _ h => h) (Or.inl ⟨by rfl, ?_⟩) (by assumption) ?_; rotate_left; (focus (intro w' hSw; (try dsimp only at hSw); go_simp; try with_reducible rfl)); simp only [Act.put, List.setIfInBounds_toArray, List.set_cons_zero, List.set_cons_succ])
        have q0 := blk_cell qU 2 _ rfl
        have q1' := blk_free qU 2
        refine wpAnyZ_ready (rs := [10]) (by kernel_rfl) (by simp) ?_
        refine AllReadyZ.lastL rfl (fun K hK => ?_)
        go_simp
        refine hK.out _ _ ?_
        clear hK K
        refine wpAnyZ_done (by kernel_rfl) ?_ _
        have qG := off_at2 qU (.slice (some ⟨g2, 0, none⟩) (R + 1) cap2)
        have bG := blk_set_other (b' := g) bU 2 (.slice (some ⟨g2, 0, none⟩) (R + 1) cap2) (by omega)
        have aG := blk_set_other (b' := g) aU 2 (.slice (some ⟨g2, 0, none⟩) (R + 1) cap2) (by omega)
        have HNB : Hid (newBook R bys y = ⟨(R : Int) + 1, bys, y.own, y.lgn, y.lg, y.pe, y.len, y.hei, y.cl, y.all, y.be, 1, y.unt, pr⟩) := by show _ = _; unfold newBook; rw [HKD.out, ← HPR.out]; rfl
        have HOx : Hid (OwnOff (F2.drew.alloc (.cells #[.int .i64 ((R : Int) + 1), .int .i64 bys, .string y.own, .slice p1 y.lgn q1, .int .i64 y.pe, .int .i64 y.len, .int .i64 y.hei, .int .i64 y.cl, .bool y.all, .int .i64 y.be, .int .i64 1, .int .i64 y.unt, .int .i64 pr] 131)) base (.slice asa N csa) (.slice ald N cld) (.slice abk R cbk) N N R { x with bkn := R + 1, bk := setB x.bk R (newBook R bys y) } L C A B D E) := ⟨HEa.out.sa, HEa.out.ld, HEa.out.bk.congr (fun i hi => (setB_ne _ _ _ (by omega)).symm)⟩
        have HOb : Hid (OwnOff u2 base (.slice asa N csa) (.slice ald N cld) (.slice (some ⟨g2, 0, none⟩) (R + 1) cap2) N N (R + 1) { x with bkn := R + 1, bk := setB x.bk R (newBook R bys y) } L C A B D (atV E R (.slice p1 y.lgn q1))) := by
          refine HOx.out.book (lim := V.heap.size) (fun i hi b e => by have h1 := ((HO.out.bk.legs i hi).lt b e).2; have := hb0.size; omega) ?_ (Nat.le_trans HBW.out hb0.size) hg2 ?_
          · dsimp only
            rw [setB_at, HNB.out]
            exact own_below (push (Below.drew (Below.refl _ _)) _) HR2.out
          · have e1 : bkRow (setB x.bk R (newBook R bys y)) E R = bkRow x.bk E R := List.map_congr_left fun j hj => by
              have hj' : j < R * 13 := by simpa using hj
              unfold recCell bkC
              rw [setB_ne _ _ _ (by omega)]
            dsimp only
            rw [e1]
            unfold bkC
            rw [setB_at, atV_at, HNB.out]
            exact ho2
        have hkg : Kept u2 (u2.setCell ⟨g, 2, none⟩ (.slice (some ⟨g2, 0, none⟩) (R + 1) cap2)) (fun b => b = g) := (Kept.refl u2 (fun b => b = g)).set (a := ⟨g, 2, none⟩) rfl _
        have HOc : Hid _ := HOb.out.box hkg qU (by decide)
        have HKw : Hid (Kept w (u2.setCell ⟨g, 2, none⟩ (.slice (some ⟨g2, 0, none⟩) (R + 1) cap2)) (fun b => b = g ∨ (Value.slice abk R cbk).ownBlock = some b)) := ((Kept.of_below (push (Below.drew hbw) _)).trans ((kept_row hg2).mono (fun b e => .inr e))).trans (hkg.mono (fun b e => .inl e))
        have c0 := blk_cell bG 0 _ rfl
        generalize u2.setCell ⟨g, 2, none⟩ (.slice (some ⟨g2, 0, none⟩) (R + 1) cap2) = Z1 at qG bG aG hkg HOc HKw c0 ⊢
        obtain ⟨HOF, hQF, HKF, bF⟩ := end_fin HKw.out HOc.out qG aG (by omega) (.int .i64 0) (.int .i64 ((R : Int) + 1)) (.int .i64 pr) (.slice none 0 0) rfl
        have v0 := blk_cell aG 0 _ rfl
        have e0 := blk_free aG 0
        have v1 := blk_cell aG 1 _ rfl
        have e1 := blk_free aG 1
        have v2 := blk_cell aG 2 _ rfl
        have e2 := blk_free aG 2
        have v3 := blk_cell aG 3 _ rfl
        have e3 := blk_free aG 3
        have HEND : Hid _ := HOF
        have HEQ : Hid _ := hQF
        have HEK : Hid _ := HKF
        clear HOF hQF HKF
        clear q0 q1' hS hkg ho2
        go_wp2
        have x0 := blk_cell bF 0 _ rfl
        have x1 := blk_cell bF 1 _ rfl
        have x2 := blk_cell bF 2 _ rfl
        have x3 := blk_cell bF 3 _ rfl
        refine bodyPost_ret (v := .agg #[.int .i64 0, .int .i64 ((R : Int) + 1), .int .i64 pr, .slice none 0 0]) (by simp [results, Tryz.results123, go_sem, x0, x1, x2, x3]) rfl ?_
        rw [HPR.out] at HEND HEQ HEK ⊢
        exact ⟨_, _, _, _, rfl, rfl, HEND.out, HEQ.out, HEK.out⟩
      exact AllReadyZ.nil
    refine AllReadyZ.consL rfl (fun K hK => ?_) ?_
    · go_simp; refine hK.out _ _ (KS.out _ (by repeat (first | with_reducible exact HB1.out | with_reducible exact Below.refl _ _ | with_reducible refine Below.drew ?_ | with_reducible refine push ?_ _))) (fun hS => ?_)
      clear hK K
      simp only [List.set_cons_zero, List.set_cons_succ]
      refine wpAnyZ_ready (rs := [12]) (by kernel_rfl) (by simp) ?_
      refine AllReadyZ.consL rfl (fun K hK => ?_) ?_
      · refine step_append_own0 (by rfl) (.tmp 53) (.tmp 55) 23 (by rfl) 3 n0 (.int .i64 0) 1 8 Tryz.underlying23 ni nz0 nz1 nz2 rfl (by decide) V.heap.size _ (by rfl) (by first | exact Nat.le_refl _ | omega | (simp; done) | (simp; omega)) (by repeat (first | ((with_reducible refine new_at _ _ _ ?_); (first | with_reducible rfl | (simp; done))) | with_reducible refine blk_drew ?_ | with_reducible refine blk_alloc ?_ _)) alg y.lgn clg (intList y.lg y.lgn) (by rfl) HSL.out.2.2 (by rw [intList_length, Nat.mul_one]) (ints_cellsO (HLV.out _ (by repeat (first | exact Below.refl _ _ | refine Below.drew ?_ | refine push ?_ _)))) (intList_one _ _) (by unfold maxLen; omega) (by omega) ?_; intro p1 q1 u1 hg1 hr1 hat1; clear hat1; have HB1 : Hid (Below V.heap.size V u1) := (by show Below _ _ _; refine after ?_ (grown_below hg1); exact (by repeat (first | exact Below.refl _ _ | refine Below.drew ?_ | refine push ?_ _))); refine hK.out _ _ (KS.out _ HB1.out) (fun hS => ?_)
        clear hK K
        simp only [Act.put, List.setIfInBounds_toArray, List.set_cons_zero, List.set_cons_succ]
        (refine wpAnyZ_takeL (i := 16) (v := ?_) rfl (by kernel_rfl) (fun _ _ _ h => h) (Or.inl ⟨by rfl, ?_⟩) (by assumption) ?_; rotate_left; (focus (intro w' hSw; (try dsimp only at hSw); go_simp; try with_reducible rfl)); simp only [Act.put, List.setIfInBounds_toArray, List.set_cons_zero, List.set_cons_succ])
        have hbx : u1.heap[V.heap.size + 1]? = some (.cells #[.int .i64 0, .int .i64 0, .string ⟨#[]⟩, .slice none 0 0, .int .i64 0, .int .i64 0, .int .i64 0, .int .i64 0, .bool false, .int .i64 0, .int .i64 0, .int .i64 0, .int .i64 0] 131 (0, 0)) := blk_below (by repeat (first | ((with_reducible refine new_at _ _ _ ?_); (first | with_reducible rfl | (simp; done))) | with_reducible refine blk_drew ?_ | with_reducible refine blk_alloc ?_ _)) (grown_below hg1)
        have bx0 := blk_cell hbx 0 _ rfl
        have bf0 := blk_free hbx 0
        have bx1 := blk_cell hbx 1 _ rfl
        have bf1 := blk_free hbx 1
        have bx2 := blk_cell hbx 2 _ rfl
        have bf2 := blk_free hbx 2
        have bx3 := blk_cell hbx 3 _ rfl
        have bf3 := blk_free hbx 3
        have bx4 := blk_cell hbx 4 _ rfl
        have bf4 := blk_free hbx 4
        have bx5 := blk_cell hbx 5 _ rfl
        have bf5 := blk_free hbx 5
        have bx6 := blk_cell hbx 6 _ rfl
        have bf6 := blk_free hbx 6
        have bx7 := blk_cell hbx 7 _ rfl
        have bf7 := blk_free hbx 7
        have bx8 := blk_cell hbx 8 _ rfl
        have bf8 := blk_free hbx 8
        have bx9 := blk_cell hbx 9 _ rfl
        have bf9 := blk_free hbx 9
        have bx10 := blk_cell hbx 10 _ rfl
        have bf10 := blk_free hbx 10
        have bx11 := blk_cell hbx 11 _ rfl
        have bf11 := blk_free hbx 11
        have bx12 := blk_cell hbx 12 _ rfl
        have bf12 := blk_free hbx 12
        refine wpAnyZ_ready (rs := [18]) (by kernel_rfl) (by simp) ?_
        refine AllReadyZ.lastL rfl (fun K hK => ?_)
        go_simp
        refine hK.out _ _ ?_
        clear hK K
        refine wpAnyZ_done (by kernel_rfl) ?_ _
        have bBF := book_set hbx (.int .i64 ((R : Int) + 1)) (.int .i64 bys) (.string y.own) (.slice p1 y.lgn q1) (.int .i64 y.pe) (.int .i64 y.len) (.int .i64 y.hei) (.int .i64 y.cl) (.bool y.all) (.int .i64 y.be) (.int .i64 2) (.int .i64 0) (.int .i64 pr)
        have hbF := book_low HB1.out (b := V.heap.size + 1) (by omega) (.int .i64 ((R : Int) + 1)) (.int .i64 bys) (.string y.own) (.slice p1 y.lgn q1) (.int .i64 y.pe) (.int .i64 y.len) (.int .i64 y.hei) (.int .i64 y.cl) (.bool y.all) (.int .i64 y.be) (.int .i64 2) (.int .i64 0) (.int .i64 pr)
        have HRF : Hid _ := (book_keep u1 (V.heap.size + 1) (.int .i64 ((R : Int) + 1)) (.int .i64 bys) (.string y.own) (.slice p1 y.lgn q1) (.int .i64 y.pe) (.int .i64 y.len) (.int .i64 y.hei) (.int .i64 y.cl) (.bool y.all) (.int .i64 y.be) (.int .i64 2) (.int .i64 0) (.int .i64 pr)).own hr1 (own_notE hr1 hbx (by decide))
        clear hbx bx0 bf0 bx1 bf1 bx2 bf2 bx3 bf3 bx4 bf4 bx5 bf5 bx6 bf6 bx7 bf7 bx8 bf8 bx9 bf9 bx10 bf10 bx11 bf11 bx12 bf12
        generalize (((((((((((((u1.setCell ⟨V.heap.size + 1, 0, none⟩ (.int .i64 ((R : Int) + 1))).setCell ⟨V.heap.size + 1, 1, none⟩ (.int .i64 bys)).setCell ⟨V.heap.size + 1, 2, none⟩ (.string y.own)).setCell ⟨V.heap.size + 1, 3, none⟩ (.slice p1 y.lgn q1)).setCell ⟨V.heap.size + 1, 4, none⟩ (.int .i64 y.pe)).setCell ⟨V.heap.size + 1, 5, none⟩ (.int .i64 y.len)).setCell ⟨V.heap.size + 1, 6, none⟩ (.int .i64 y.hei)).setCell ⟨V.heap.size + 1, 7, none⟩ (.int .i64 y.cl)).setCell ⟨V.heap.size + 1, 8, none⟩ (.bool y.all)).setCell ⟨V.heap.size + 1, 9, none⟩ (.int .i64 y.be)).setCell ⟨V.heap.size + 1, 10, none⟩ (.int .i64 2)).setCell ⟨V.heap.size + 1, 11, none⟩ (.int .i64 0)).setCell ⟨V.heap.size + 1, 12, none⟩ (.int .i64 pr)) = F at bBF hbF HRF ⊢
        have hbbV : V.heap.size ≤ V.heap.size + 1 := (by omega)
        generalize V.heap.size + 1 = bb at bBF hbbV ⊢
        clear hS hg1 hr1 HB1
        have hbw := after hb0 hbF
        have bOF := blk_below bO hbF
        have bAF := blk_below bA hbF
        have o0 := blk_cell bOF 0 _ rfl
        have hV1 : w.heap.size + 1 < V.heap.size := blk_lt bA
        have c10 := blk_cell bBF 10 _ rfl
        have c11 := blk_cell bBF 11 _ rfl
        have f10 := blk_free bBF 10
        have f11 := blk_free bBF 11
        have o10 : ∀ v, (F.setCell ⟨bb, 10, none⟩ v).cell? ⟨w.heap.size, 10, none⟩ = some (.int .i64 y.unt) := fun v => blk_cell (blk_set_other (b' := bb) bOF 10 v (by omega)) 10 _ rfl
        go_upto_region 15 with fail
        have bB2 : ((F.setCell ⟨bb, 10, none⟩ (.int .i64 1)).setCell ⟨bb, 11, none⟩ (.int .i64 y.unt)).heap[bb]? = some (.cells #[.int .i64 ((R : Int) + 1), .int .i64 bys, .string y.own, .slice p1 y.lgn q1, .int .i64 y.pe, .int .i64 y.len, .int .i64 y.hei, .int .i64 y.cl, .bool y.all, .int .i64 y.be, .int .i64 1, .int .i64 y.unt, .int .i64 pr] 131 (0, 0)) := by simpa using blk_set (blk_set bBF 10 (.int .i64 1)) 11 (.int .i64 y.unt)
        have hb2 : Below V.heap.size V ((F.setCell ⟨bb, 10, none⟩ (.int .i64 1)).setCell ⟨bb, 11, none⟩ (.int .i64 y.unt)) := Below.setCell (p := ⟨bb, 11, none⟩) (Below.setCell (p := ⟨bb, 10, none⟩) hbF hbbV _) hbbV _
        have HR2 : Hid (((F.setCell ⟨bb, 10, none⟩ (.int .i64 1)).setCell ⟨bb, 11, none⟩ (.int .i64 y.unt)).ownsRow V.heap.size 3 1 (.slice p1 y.lgn q1) y.lgn (intList y.lg y.lgn)) := (((Kept.refl F (fun b => b = bb)).set (a := ⟨bb, 10, none⟩) rfl (.int .i64 1)).set (a := ⟨bb, 11, none⟩) rfl (.int .i64 y.unt)).own HRF.out (own_notE HRF.out bBF (by decide))
        generalize (F.setCell ⟨bb, 10, none⟩ (.int .i64 1)).setCell ⟨bb, 11, none⟩ (.int .i64 y.unt) = F2 at bB2 hb2 HR2 ⊢
        clear c10 c11 f10 f11 o0 o10
        clear bBF hbF HRF hbw bOF bAF F
        have hbw := after hb0 hb2
        have bOF := blk_below bO hb2
        have bAF := blk_below bA hb2
        have qF := blk_below HQ.out hbw
        have hgw : g < w.heap.size := blk_lt HQ.out
        have KS2 : Hid (∀ z : World, z.heap[g]? = some (.cells #[.slice asa N csa, .slice ald N cld, .slice abk R cbk] 66 (0, 0)) → z.heap[bb]? = some (.cells #[.int .i64 ((R : Int) + 1), .int .i64 bys, .string y.own, .slice p1 y.lgn q1, .int .i64 y.pe, .int .i64 y.len, .int .i64 y.hei, .int .i64 y.cl, .bool y.all, .int .i64 y.be, .int .i64 1, .int .i64 y.unt, .int .i64 pr] 131 (0, 0)) → z.cell? ⟨g, 2, none⟩ = some (.slice abk R cbk) ∧ z.cell? ⟨bb, 0, none⟩ = some (.int .i64 ((R : Int) + 1)) ∧ z.cell? ⟨bb, 1, none⟩ = some (.int .i64 bys) ∧ z.cell? ⟨bb, 2, none⟩ = some (.string y.own) ∧ z.cell? ⟨bb, 3, none⟩ = some (.slice p1 y.lgn q1) ∧ z.cell? ⟨bb, 4, none⟩ = some (.int .i64 y.pe) ∧ z.cell? ⟨bb, 5, none⟩ = some (.int .i64 y.len) ∧ z.cell? ⟨bb, 6, none⟩ = some (.int .i64 y.hei) ∧ z.cell? ⟨bb, 7, none⟩ = some (.int .i64 y.cl) ∧ z.cell? ⟨bb, 8, none⟩ = some (.bool y.all) ∧ z.cell? ⟨bb, 9, none⟩ = some (.int .i64 y.be) ∧ z.cell? ⟨bb, 10, none⟩ = some (.int .i64 1) ∧ z.cell? ⟨bb, 11, none⟩ = some (.int .i64 y.unt) ∧ z.cell? ⟨bb, 12, none⟩ = some (.int .i64 pr)) := fun z h1 h2 => ⟨blk_cell h1 2 _ rfl, blk_cell h2 0 _ rfl, blk_cell h2 1 _ rfl, blk_cell h2 2 _ rfl, blk_cell h2 3 _ rfl, blk_cell h2 4 _ rfl, blk_cell h2 5 _ rfl, blk_cell h2 6 _ rfl, blk_cell h2 7 _ rfl, blk_cell h2 8 _ rfl, blk_cell h2 9 _ rfl, blk_cell h2 10 _ rfl, blk_cell h2 11 _ rfl, blk_cell h2 12 _ rfl⟩
        refine wp_region_z 10 11 (fun w' => w'.cell? ⟨g, 2, none⟩ = some (.slice abk R cbk) ∧ w'.cell? ⟨bb, 0, none⟩ = some (.int .i64 ((R : Int) + 1)) ∧ w'.cell? ⟨bb, 1, none⟩ = some (.int .i64 bys) ∧ w'.cell? ⟨bb, 2, none⟩ = some (.string y.own) ∧ w'.cell? ⟨bb, 3, none⟩ = some (.slice p1 y.lgn q1) ∧ w'.cell? ⟨bb, 4, none⟩ = some (.int .i64 y.pe) ∧ w'.cell? ⟨bb, 5, none⟩ = some (.int .i64 y.len) ∧ w'.cell? ⟨bb, 6, none⟩ = some (.int .i64 y.hei) ∧ w'.cell? ⟨bb, 7, none⟩ = some (.int .i64 y.cl) ∧ w'.cell? ⟨bb, 8, none⟩ = some (.bool y.all) ∧ w'.cell? ⟨bb, 9, none⟩ = some (.int .i64 y.be) ∧ w'.cell? ⟨bb, 10, none⟩ = some (.int .i64 1) ∧ w'.cell? ⟨bb, 11, none⟩ = some (.int .i64 y.unt) ∧ w'.cell? ⟨bb, 12, none⟩ = some (.int .i64 pr)) rfl (by kernel_rfl) (KS2.out _ qF bB2) (fun hS => ?_)
        simp only [List.replicate_succ, List.replicate_zero]
        (refine wpAnyZ_takeL (i := 0) (v := ?_) rfl (by kernel_rfl) (fun _ _ _ h => h) (Or.inl ⟨by rfl, ?_⟩) (by assumption) ?_; rotate_left; (focus (intro w' hSw; (try dsimp only at hSw); go_simp; try with_reducible rfl)); simp only [Act.put, List.setIfInBounds_toArray, List.set_cons_zero, List.set_cons_succ])
        (refine wpAnyZ_takeL (i := 1) (v := ?_) rfl (by kernel_rfl) (fun _ _ _ h => h) (Or.inl ⟨by rfl, ?_⟩) (by assumption) ?_; rotate_left; (focus (intro w' hSw; (try dsimp only at hSw); go_simp; try with_reducible rfl)); simp only [Act.put, List.setIfInBounds_toArray, List.set_cons_zero, List.set_cons_succ])
        (refine wpAnyZ_takeL (i := 2) (v := ?_) rfl (by kernel_rfl) (fun _ _ _ h => h) (Or.inl ⟨by rfl, ?_⟩) (by assumption) ?_; rotate_left; (focus (intro w' hSw; (try dsimp only at hSw); go_simp; try with_reducible rfl)); simp only [Act.put, List.setIfInBounds_toArray, List.set_cons_zero, List.set_cons_succ])
        (refine wpAnyZ_takeL (i := 3) (v := ?_) rfl (by kernel_rfl) (fun _ _ _ h => h) (Or.inl ⟨by rfl, ?_⟩) (by assumption) ?_; rotate_left; (focus (intro w' hSw; (try dsimp only at hSw); go_simp; try with_reducible rfl)); simp only [Act.put, List.setIfInBounds_toArray, List.set_cons_zero, List.set_cons_succ])
        (refine wpAnyZ_takeL (i := 4) (v := ?_) rfl (by kernel_rfl) (fun _ _ _ h => h) (Or.inl ⟨by rfl, ?_⟩) (by assumption) ?_; rotate_left; (focus (intro w' hSw; (try dsimp only at hSw); go_simp; try with_reducible rfl)); simp only [Act.put, List.setIfInBounds_toArray, List.set_cons_zero, List.set_cons_succ])
        (refine wpAnyZ_takeL (i := 5) (v := ?_) rfl (by kernel_rfl) (fun _ _ _ h => h) (Or.inl ⟨by rfl, ?_⟩) (by assumption) ?_; rotate_left; (focus (intro w' hSw; (try dsimp only at hSw); go_simp; try with_reducible rfl)); simp only [Act.put, List.setIfInBounds_toArray, List.set_cons_zero, List.set_cons_succ])
        refine wpAnyZ_ready (rs := [6]) (by kernel_rfl) (by simp) ?_
        refine AllReadyZ.consL rfl (fun K hK => ?_) AllReadyZ.nil
        refine step_buildSlice (by rfl) 64 131 1 #[(0, .tmp 73)] (by rfl) Tryz.underlying64 #[.int .i64 ((R : Int) + 1), .int .i64 bys, .string y.own, .slice p1 y.lgn q1, .int .i64 y.pe, .int .i64 y.len, .int .i64 y.hei, .int .i64 y.cl, .bool y.all, .int .i64 y.be, .int .i64 1, .int .i64 y.unt, .int .i64 pr] (Eq.trans (congrArg (Program.builtSlice Tryz.prog 131 1) (show _ = [(0, Value.agg #[.int .i64 ((R : Int) + 1), .int .i64 bys, .string y.own, .slice p1 y.lgn q1, .int .i64 y.pe, .int .i64 y.len, .int .i64 y.hei, .int .i64 y.cl, .bool y.all, .int .i64 y.be, .int .i64 1, .int .i64 y.unt, .int .i64 pr])] from by first | (simp [go_sem]; done) | rfl | kernel_rfl)) (builtBook ((R : Int) + 1) bys y.pe y.len y.hei y.cl y.be 1 y.unt pr y.own y.all p1 y.lgn q1)) ?_
        refine hK.out _ _ (KS2.out _ (blk_alloc qF _) (blk_alloc bB2 _)) (fun hS => ?_)
        clear hK K
        simp only [Act.put, List.setIfInBounds_toArray, List.set_cons_zero, List.set_cons_succ]
        have hszF : F2.drew.heap.size = F2.heap.size := rfl
        refine wpAnyZ_ready (rs := [7]) (by kernel_rfl) (by simp) ?_
        refine AllReadyZ.consL rfl (fun K hK => ?_) AllReadyZ.nil
        have HEa : Hid (OwnOff (F2.drew.alloc (.cells #[.int .i64 ((R : Int) + 1), .int .i64 bys, .string y.own, .slice p1 y.lgn q1, .int .i64 y.pe, .int .i64 y.len, .int .i64 y.hei, .int .i64 y.cl, .bool y.all, .int .i64 y.be, .int .i64 1, .int .i64 y.unt, .int .i64 pr] 131)) base (.slice asa N csa) (.slice ald N cld) (.slice abk R cbk) N N R x L C A B D E) := HO.out.below (push (Below.drew hbw) _)
        refine step_append_lies _ (by rfl) (.tmp 72) (.tmp 74) 64 (by rfl) base 131 r0 (.agg #[.int .i64 0, .int .i64 0, .string ⟨#[]⟩, .slice none 0 0, .int .i64 0, .int .i64 0, .int .i64 0, .int .i64 0, .bool false, .int .i64 0, .int .i64 0, .int .i64 0, .int .i64 0]) 13 128 Tryz.underlying64 ri rz0 rz1 rz2 rfl (by decide) _ R (bkRow x.bk E R) (by rfl) HEa.out.bk.row _ 1 1 [.int .i64 ((R : Int) + 1), .int .i64 bys, .string y.own, .slice p1 y.lgn q1, .int .i64 y.pe, .int .i64 y.len, .int .i64 y.hei, .int .i64 y.cl, .bool y.all, .int .i64 y.be, .int .i64 1, .int .i64 y.unt, .int .i64 pr] (by rfl) (by rfl) (World.news_of_block (cs := #[.int .i64 ((R : Int) + 1), .int .i64 bys, .string y.own, .slice p1 y.lgn q1, .int .i64 y.pe, .int .i64 y.len, .int .i64 y.hei, .int .i64 y.cl, .bool y.all, .int .i64 y.be, .int .i64 1, .int .i64 y.unt, .int .i64 pr]) (t := 131) (fr := (0, 0)) (heap_alloc_new F2.drew _)) (by intro u hu; simp at hu; rcases hu with rfl | rfl | rfl | rfl | rfl | rfl | rfl | rfl | rfl | rfl | rfl | rfl | rfl <;> rfl) (by decide) (by unfold maxLen; omega) (by omega) (by have := HBW.out; have := hbw.size; simp; omega) _ rfl ?_
        intro g2 cap2 u2 ho2 hg2 hat2 hlt2
        have qU := (kept_row hg2).blk (blk_alloc (blk_drew qF) (.cells #[.int .i64 ((R : Int) + 1), .int .i64 bys, .string y.own, .slice p1 y.lgn q1, .int .i64 y.pe, .int .i64 y.len, .int .i64 y.hei, .int .i64 y.cl, .bool y.all, .int .i64 y.be, .int .i64 1, .int .i64 y.unt, .int .i64 pr] 131)) (fun e => by obtain ⟨cs, e2⟩ := own_blockE HEa.out.bk.row g e; rw [blk_alloc (blk_drew qF) (.cells #[.int .i64 ((R : Int) + 1), .int .i64 bys, .string y.own, .slice p1 y.lgn q1, .int .i64 y.pe, .int .i64 y.len, .int .i64 y.hei, .int .i64 y.cl, .bool y.all, .int .i64 y.be, .int .i64 1, .int .i64 y.unt, .int .i64 pr] 131)] at e2; simp at e2)
        have bU := (kept_row hg2).blk (blk_alloc (blk_drew bB2) (.cells #[.int .i64 ((R : Int) + 1), .int .i64 bys, .string y.own, .slice p1 y.lgn q1, .int .i64 y.pe, .int .i64 y.len, .int .i64 y.hei, .int .i64 y.cl, .bool y.all, .int .i64 y.be, .int .i64 1, .int .i64 y.unt, .int .i64 pr] 131)) (fun e => by have h1 := (HO.out.bk.row.lt bb e).2; have := hb0.size; omega)
        have aU := (kept_row hg2).blk (blk_alloc (blk_drew bAF) (.cells #[.int .i64 ((R : Int) + 1), .int .i64 bys, .string y.own, .slice p1 y.lgn q1, .int .i64 y.pe, .int .i64 y.len, .int .i64 y.hei, .int .i64 y.cl, .bool y.all, .int .i64 y.be, .int .i64 1, .int .i64 y.unt, .int .i64 pr] 131)) (fun e => by have h1 := (HO.out.bk.row.lt _ e).2; omega)
        refine hK.out _ _ (KS2.out _ qU bU) (fun hS => ?_)
        clear hK K
        simp only [Act.put, List.setIfInBounds_toArray, List.set_cons_zero, List.set_cons_succ]
        (refine wpAnyZ_takeL (i := 8) (v := ?_) rfl (by kernel_rfl) (fun _ _ _ h => h) (Or.inl ⟨by rfl, ?_⟩) (by assumption) ?_; rotate_left; (focus (intro w' hSw; (try dsimp only at hSw); go_simp; try with_reducible rfl)); simp only [Act.put, List.setIfInBounds_toArray, List.set_cons_zero, List.set_cons_succ])
        (refine wpAnyZ_takeL (i := 9) (v := ?_) rfl (by kernel_rfl) (fun _ _ _ h => h) (Or.inl ⟨by rfl, ?_⟩) (by assumption) ?_; rotate_left; (focus (intro w' hSw; (try dsimp only at hSw); go_simp; try with_reducible rfl)); simp only [Act.put, List.setIfInBounds_toArray, List.set_cons_zero, List.set_cons_succ])
        have q0 := blk_cell qU 2 _ rfl
        have q1' := blk_free qU 2
        refine wpAnyZ_ready (rs := [10]) (by kernel_rfl) (by simp) ?_
        refine AllReadyZ.lastL rfl (fun K hK => ?_)
        go_simp
        refine hK.out _ _ ?_
        clear hK K
        refine wpAnyZ_done (by kernel_rfl) ?_ _
        have qG := off_at2 qU (.slice (some ⟨g2, 0, none⟩) (R + 1) cap2)
        have bG := blk_set_other (b' := g) bU 2 (.slice (some ⟨g2, 0, none⟩) (R + 1) cap2) (by omega)
        have aG := blk_set_other (b' := g) aU 2 (.slice (some ⟨g2, 0, none⟩) (R + 1) cap2) (by omega)
        have HNB : Hid (newBook R bys y = ⟨(R : Int) + 1, bys, y.own, y.lgn, y.lg, y.pe, y.len, y.hei, y.cl, y.all, y.be, 1, y.unt, pr⟩) := by show _ = _; unfold newBook; rw [HKD.out, ← HPR.out]; rfl
        have HOx : Hid (OwnOff (F2.drew.alloc (.cells #[.int .i64 ((R : Int) + 1), .int .i64 bys, .string y.own, .slice p1 y.lgn q1, .int .i64 y.pe, .int .i64 y.len, .int .i64 y.hei, .int .i64 y.cl, .bool y.all, .int .i64 y.be, .int .i64 1, .int .i64 y.unt, .int .i64 pr] 131)) base (.slice asa N csa) (.slice ald N cld) (.slice abk R cbk) N N R { x with bkn := R + 1, bk := setB x.bk R (newBook R bys y) } L C A B D E) := ⟨HEa.out.sa, HEa.out.ld, HEa.out.bk.congr (fun i hi => (setB_ne _ _ _ (by omega)).symm)⟩
        have HOb : Hid (OwnOff u2 base (.slice asa N csa) (.slice ald N cld) (.slice (some ⟨g2, 0, none⟩) (R + 1) cap2) N N (R + 1) { x with bkn := R + 1, bk := setB x.bk R (newBook R bys y) } L C A B D (atV E R (.slice p1 y.lgn q1))) := by
          refine HOx.out.book (lim := V.heap.size) (fun i hi b e => by have h1 := ((HO.out.bk.legs i hi).lt b e).2; have := hb0.size; omega) ?_ (Nat.le_trans HBW.out hb0.size) hg2 ?_
          · dsimp only
            rw [setB_at, HNB.out]
            exact own_below (push (Below.drew (Below.refl _ _)) _) HR2.out
          · have e1 : bkRow (setB x.bk R (newBook R bys y)) E R = bkRow x.bk E R := List.map_congr_left fun j hj => by
              have hj' : j < R * 13 := by simpa using hj
              unfold recCell bkC
              rw [setB_ne _ _ _ (by omega)]
            dsimp only
            rw [e1]
            unfold bkC
            rw [setB_at, atV_at, HNB.out]
            exact ho2
        have hkg : Kept u2 (u2.setCell ⟨g, 2, none⟩ (.slice (some ⟨g2, 0, none⟩) (R + 1) cap2)) (fun b => b = g) := (Kept.refl u2 (fun b => b = g)).set (a := ⟨g, 2, none⟩) rfl _
        have HOc : Hid _ := HOb.out.box hkg qU (by decide)
        have HKw : Hid (Kept w (u2.setCell ⟨g, 2, none⟩ (.slice (some ⟨g2, 0, none⟩) (R + 1) cap2)) (fun b => b = g ∨ (Value.slice abk R cbk).ownBlock = some b)) := ((Kept.of_below (push (Below.drew hbw) _)).trans ((kept_row hg2).mono (fun b e => .inr e))).trans (hkg.mono (fun b e => .inl e))
        have c0 := blk_cell bG 0 _ rfl
        generalize u2.setCell ⟨g, 2, none⟩ (.slice (some ⟨g2, 0, none⟩) (R + 1) cap2) = Z1 at qG bG aG hkg HOc HKw c0 ⊢
        obtain ⟨HOF, hQF, HKF, bF⟩ := end_fin HKw.out HOc.out qG aG (by omega) (.int .i64 0) (.int .i64 ((R : Int) + 1)) (.int .i64 pr) (.slice none 0 0) rfl
        have v0 := blk_cell aG 0 _ rfl
        have e0 := blk_free aG 0
        have v1 := blk_cell aG 1 _ rfl
        have e1 := blk_free aG 1
        have v2 := blk_cell aG 2 _ rfl
        have e2 := blk_free aG 2
        have v3 := blk_cell aG 3 _ rfl
        have e3 := blk_free aG 3
        have HEND : Hid _ := HOF
        have HEQ : Hid _ := hQF
        have HEK : Hid _ := HKF
        clear HOF hQF HKF
        clear q0 q1' hS hkg ho2
        go_wp2
        have x0 := blk_cell bF 0 _ rfl
        have x1 := blk_cell bF 1 _ rfl
        have x2 := blk_cell bF 2 _ rfl
        have x3 := blk_cell bF 3 _ rfl
        refine bodyPost_ret (v := .agg #[.int .i64 0, .int .i64 ((R : Int) + 1), .int .i64 pr, .slice none 0 0]) (by simp [results, Tryz.results123, go_sem, x0, x1, x2, x3]) rfl ?_
        rw [HPR.out] at HEND HEQ HEK ⊢
        exact ⟨_, _, _, _, rfl, rfl, HEND.out, HEQ.out, HEK.out⟩
      exact AllReadyZ.nil
    exact AllReadyZ.nil
  refine AllReadyZ.consL rfl (fun K hK => ?_) ?_
  · go_simp; refine hK.out _ _ (KS.out _ (by repeat (first | with_reducible exact HB1.out | with_reducible exact Below.refl _ _ | with_reducible refine Below.drew ?_ | with_reducible refine push ?_ _))) (fun hS => ?_)
    clear hK K
    simp only [List.set_cons_zero, List.set_cons_succ]
    refine wpAnyZ_ready (rs := [9]) (by kernel_rfl) (by simp) ?_
    refine AllReadyZ.consL rfl (fun K hK => ?_) ?_
    · go_simp; refine hK.out _ _ (KS.out _ (by repeat (first | with_reducible exact HB1.out | with_reducible exact Below.refl _ _ | with_reducible refine Below.drew ?_ | with_reducible refine push ?_ _))) (fun hS => ?_)
      clear hK K
      simp only [List.set_cons_zero, List.set_cons_succ]
      refine wpAnyZ_ready (rs := [12]) (by kernel_rfl) (by simp) ?_
      refine AllReadyZ.consL rfl (fun K hK => ?_) ?_
      · refine step_append_own0 (by rfl) (.tmp 53) (.tmp 55) 23 (by rfl) 3 n0 (.int .i64 0) 1 8 Tryz.underlying23 ni nz0 nz1 nz2 rfl (by decide) V.heap.size _ (by rfl) (by first | exact Nat.le_refl _ | omega | (simp; done) | (simp; omega)) (by repeat (first | ((with_reducible refine new_at _ _ _ ?_); (first | with_reducible rfl | (simp; done))) | with_reducible refine blk_drew ?_ | with_reducible refine blk_alloc ?_ _)) alg y.lgn clg (intList y.lg y.lgn) (by rfl) HSL.out.2.2 (by rw [intList_length, Nat.mul_one]) (ints_cellsO (HLV.out _ (by repeat (first | exact Below.refl _ _ | refine Below.drew ?_ | refine push ?_ _)))) (intList_one _ _) (by unfold maxLen; omega) (by omega) ?_; intro p1 q1 u1 hg1 hr1 hat1; clear hat1; have HB1 : Hid (Below V.heap.size V u1) := (by show Below _ _ _; refine after ?_ (grown_below hg1); exact (by repeat (first | exact Below.refl _ _ | refine Below.drew ?_ | refine push ?_ _))); refine hK.out _ _ (KS.out _ HB1.out) (fun hS => ?_)
        clear hK K
        simp only [Act.put, List.setIfInBounds_toArray, List.set_cons_zero, List.set_cons_succ]
        (refine wpAnyZ_takeL (i := 16) (v := ?_) rfl (by kernel_rfl) (fun _ _ _ h => h) (Or.inl ⟨by rfl, ?_⟩) (by assumption) ?_; rotate_left; (focus (intro w' hSw; (try dsimp only at hSw); go_simp; try with_reducible rfl)); simp only [Act.put, List.setIfInBounds_toArray, List.set_cons_zero, List.set_cons_succ])
        have hbx : u1.heap[V.heap.size]? = some (.cells #[.int .i64 0, .int .i64 0, .string ⟨#[]⟩, .slice none 0 0, .int .i64 0, .int .i64 0, .int .i64 0, .int .i64 0, .bool false, .int .i64 0, .int .i64 0, .int .i64 0, .int .i64 0] 131 (0, 0)) := blk_below (by repeat (first | ((with_reducible refine new_at _ _ _ ?_); (first | with_reducible rfl | (simp; done))) | with_reducible refine blk_drew ?_ | with_reducible refine blk_alloc ?_ _)) (grown_below hg1)
        have bx0 := blk_cell hbx 0 _ rfl
        have bf0 := blk_free hbx 0
        have bx1 := blk_cell hbx 1 _ rfl
        have bf1 := blk_free hbx 1
        have bx2 := blk_cell hbx 2 _ rfl
        have bf2 := blk_free hbx 2
        have bx3 := blk_cell hbx 3 _ rfl
        have bf3 := blk_free hbx 3
        have bx4 := blk_cell hbx 4 _ rfl
        have bf4 := blk_free hbx 4
        have bx5 := blk_cell hbx 5 _ rfl
        have bf5 := blk_free hbx 5
        have bx6 := blk_cell hbx 6 _ rfl
        have bf6 := blk_free hbx 6
        have bx7 := blk_cell hbx 7 _ rfl
        have bf7 := blk_free hbx 7
        have bx8 := blk_cell hbx 8 _ rfl
        have bf8 := blk_free hbx 8
        have bx9 := blk_cell hbx 9 _ rfl
        have bf9 := blk_free hbx 9
        have bx10 := blk_cell hbx 10 _ rfl
        have bf10 := blk_free hbx 10
        have bx11 := blk_cell hbx 11 _ rfl
        have bf11 := blk_free hbx 11
        have bx12 := blk_cell hbx 12 _ rfl
        have bf12 := blk_free hbx 12
        refine wpAnyZ_ready (rs := [18]) (by kernel_rfl) (by simp) ?_
        refine AllReadyZ.lastL rfl (fun K hK => ?_)
        go_simp
        refine hK.out _ _ ?_
        clear hK K
        refine wpAnyZ_done (by kernel_rfl) ?_ _
        have bBF := book_set hbx (.int .i64 ((R : Int) + 1)) (.int .i64 bys) (.string y.own) (.slice p1 y.lgn q1) (.int .i64 y.pe) (.int .i64 y.len) (.int .i64 y.hei) (.int .i64 y.cl) (.bool y.all) (.int .i64 y.be) (.int .i64 2) (.int .i64 0) (.int .i64 pr)
        have hbF := book_low HB1.out (b := V.heap.size) (by omega) (.int .i64 ((R : Int) + 1)) (.int .i64 bys) (.string y.own) (.slice p1 y.lgn q1) (.int .i64 y.pe) (.int .i64 y.len) (.int .i64 y.hei) (.int .i64 y.cl) (.bool y.all) (.int .i64 y.be) (.int .i64 2) (.int .i64 0) (.int .i64 pr)
        have HRF : Hid _ := (book_keep u1 (V.heap.size) (.int .i64 ((R : Int) + 1)) (.int .i64 bys) (.string y.own) (.slice p1 y.lgn q1) (.int .i64 y.pe) (.int .i64 y.len) (.int .i64 y.hei) (.int .i64 y.cl) (.bool y.all) (.int .i64 y.be) (.int .i64 2) (.int .i64 0) (.int .i64 pr)).own hr1 (own_notE hr1 hbx (by decide))
        clear hbx bx0 bf0 bx1 bf1 bx2 bf2 bx3 bf3 bx4 bf4 bx5 bf5 bx6 bf6 bx7 bf7 bx8 bf8 bx9 bf9 bx10 bf10 bx11 bf11 bx12 bf12
        generalize (((((((((((((u1.setCell ⟨V.heap.size, 0, none⟩ (.int .i64 ((R : Int) + 1))).setCell ⟨V.heap.size, 1, none⟩ (.int .i64 bys)).setCell ⟨V.heap.size, 2, none⟩ (.string y.own)).setCell ⟨V.heap.size, 3, none⟩ (.slice p1 y.lgn q1)).setCell ⟨V.heap.size, 4, none⟩ (.int .i64 y.pe)).setCell ⟨V.heap.size, 5, none⟩ (.int .i64 y.len)).setCell ⟨V.heap.size, 6, none⟩ (.int .i64 y.hei)).setCell ⟨V.heap.size, 7, none⟩ (.int .i64 y.cl)).setCell ⟨V.heap.size, 8, none⟩ (.bool y.all)).setCell ⟨V.heap.size, 9, none⟩ (.int .i64 y.be)).setCell ⟨V.heap.size, 10, none⟩ (.int .i64 2)).setCell ⟨V.heap.size, 11, none⟩ (.int .i64 0)).setCell ⟨V.heap.size, 12, none⟩ (.int .i64 pr)) = F at bBF hbF HRF ⊢
        obtain ⟨bb, hbb⟩ : ∃ bb, bb = V.heap.size := ⟨_, rfl⟩
        rw [← hbb] at bBF ⊢
        have hbbV : V.heap.size ≤ bb := by omega
        clear hbb
        clear hS hg1 hr1 HB1
        have hbw := after hb0 hbF
        have bOF := blk_below bO hbF
        have bAF := blk_below bA hbF
        have o0 := blk_cell bOF 0 _ rfl
        have hV1 : w.heap.size + 1 < V.heap.size := blk_lt bA
        have c10 := blk_cell bBF 10 _ rfl
        have c11 := blk_cell bBF 11 _ rfl
        have f10 := blk_free bBF 10
        have f11 := blk_free bBF 11
        have o10 : ∀ v, (F.setCell ⟨bb, 10, none⟩ v).cell? ⟨w.heap.size, 10, none⟩ = some (.int .i64 y.unt) := fun v => blk_cell (blk_set_other (b' := bb) bOF 10 v (by omega)) 10 _ rfl
        go_upto_region 15 with fail
        have bB2 : ((F.setCell ⟨bb, 10, none⟩ (.int .i64 1)).setCell ⟨bb, 11, none⟩ (.int .i64 y.unt)).heap[bb]? = some (.cells #[.int .i64 ((R : Int) + 1), .int .i64 bys, .string y.own, .slice p1 y.lgn q1, .int .i64 y.pe, .int .i64 y.len, .int .i64 y.hei, .int .i64 y.cl, .bool y.all, .int .i64 y.be, .int .i64 1, .int .i64 y.unt, .int .i64 pr] 131 (0, 0)) := by simpa using blk_set (blk_set bBF 10 (.int .i64 1)) 11 (.int .i64 y.unt)
        have hb2 : Below V.heap.size V ((F.setCell ⟨bb, 10, none⟩ (.int .i64 1)).setCell ⟨bb, 11, none⟩ (.int .i64 y.unt)) := Below.setCell (p := ⟨bb, 11, none⟩) (Below.setCell (p := ⟨bb, 10, none⟩) hbF hbbV _) hbbV _
        have HR2 : Hid (((F.setCell ⟨bb, 10, none⟩ (.int .i64 1)).setCell ⟨bb, 11, none⟩ (.int .i64 y.unt)).ownsRow V.heap.size 3 1 (.slice p1 y.lgn q1) y.lgn (intList y.lg y.lgn)) := (((Kept.refl F (fun b => b = bb)).set (a := ⟨bb, 10, none⟩) rfl (.int .i64 1)).set (a := ⟨bb, 11, none⟩) rfl (.int .i64 y.unt)).own HRF.out (own_notE HRF.out bBF (by decide))
        generalize (F.setCell ⟨bb, 10, none⟩ (.int .i64 1)).setCell ⟨bb, 11, none⟩ (.int .i64 y.unt) = F2 at bB2 hb2 HR2 ⊢
        clear c10 c11 f10 f11 o0 o10
        clear bBF hbF HRF hbw bOF bAF F
        have hbw := after hb0 hb2
        have bOF := blk_below bO hb2
        have bAF := blk_below bA hb2
        have qF := blk_below HQ.out hbw
        have hgw : g < w.heap.size := blk_lt HQ.out
        have KS2 : Hid (∀ z : World, z.heap[g]? = some (.cells #[.slice asa N csa, .slice ald N cld, .slice abk R cbk] 66 (0, 0)) → z.heap[bb]? = some (.cells #[.int .i64 ((R : Int) + 1), .int .i64 bys, .string y.own, .slice p1 y.lgn q1, .int .i64 y.pe, .int .i64 y.len, .int .i64 y.hei, .int .i64 y.cl, .bool y.all, .int .i64 y.be, .int .i64 1, .int .i64 y.unt, .int .i64 pr] 131 (0, 0)) → z.cell? ⟨g, 2, none⟩ = some (.slice abk R cbk) ∧ z.cell? ⟨bb, 0, none⟩ = some (.int .i64 ((R : Int) + 1)) ∧ z.cell? ⟨bb, 1, none⟩ = some (.int .i64 bys) ∧ z.cell? ⟨bb, 2, none⟩ = some (.string y.own) ∧ z.cell? ⟨bb, 3, none⟩ = some (.slice p1 y.lgn q1) ∧ z.cell? ⟨bb, 4, none⟩ = some (.int .i64 y.pe) ∧ z.cell? ⟨bb, 5, none⟩ = some (.int .i64 y.len) ∧ z.cell? ⟨bb, 6, none⟩ = some (.int .i64 y.hei) ∧ z.cell? ⟨bb, 7, none⟩ = some (.int .i64 y.cl) ∧ z.cell? ⟨bb, 8, none⟩ = some (.bool y.all) ∧ z.cell? ⟨bb, 9, none⟩ = some (.int .i64 y.be) ∧ z.cell? ⟨bb, 10, none⟩ = some (.int .i64 1) ∧ z.cell? ⟨bb, 11, none⟩ = some (.int .i64 y.unt) ∧ z.cell? ⟨bb, 12, none⟩ = some (.int .i64 pr)) := fun z h1 h2 => ⟨blk_cell h1 2 _ rfl, blk_cell h2 0 _ rfl, blk_cell h2 1 _ rfl, blk_cell h2 2 _ rfl, blk_cell h2 3 _ rfl, blk_cell h2 4 _ rfl, blk_cell h2 5 _ rfl, blk_cell h2 6 _ rfl, blk_cell h2 7 _ rfl, blk_cell h2 8 _ rfl, blk_cell h2 9 _ rfl, blk_cell h2 10 _ rfl, blk_cell h2 11 _ rfl, blk_cell h2 12 _ rfl⟩
        refine wp_region_z 10 11 (fun w' => w'.cell? ⟨g, 2, none⟩ = some (.slice abk R cbk) ∧ w'.cell? ⟨bb, 0, none⟩ = some (.int .i64 ((R : Int) + 1)) ∧ w'.cell? ⟨bb, 1, none⟩ = some (.int .i64 bys) ∧ w'.cell? ⟨bb, 2, none⟩ = some (.string y.own) ∧ w'.cell? ⟨bb, 3, none⟩ = some (.slice p1 y.lgn q1) ∧ w'.cell? ⟨bb, 4, none⟩ = some (.int .i64 y.pe) ∧ w'.cell? ⟨bb, 5, none⟩ = some (.int .i64 y.len) ∧ w'.cell? ⟨bb, 6, none⟩ = some (.int .i64 y.hei) ∧ w'.cell? ⟨bb, 7, none⟩ = some (.int .i64 y.cl) ∧ w'.cell? ⟨bb, 8, none⟩ = some (.bool y.all) ∧ w'.cell? ⟨bb, 9, none⟩ = some (.int .i64 y.be) ∧ w'.cell? ⟨bb, 10, none⟩ = some (.int .i64 1) ∧ w'.cell? ⟨bb, 11, none⟩ = some (.int .i64 y.unt) ∧ w'.cell? ⟨bb, 12, none⟩ = some (.int .i64 pr)) rfl (by kernel_rfl) (KS2.out _ qF bB2) (fun hS => ?_)
        simp only [List.replicate_succ, List.replicate_zero]
        (refine wpAnyZ_takeL (i := 0) (v := ?_) rfl (by kernel_rfl) (fun _ _ _ h => h) (Or.inl ⟨by rfl, ?_⟩) (by assumption) ?_; rotate_left; (focus (intro w' hSw; (try dsimp only at hSw); go_simp; try with_reducible rfl)); simp only [Act.put, List.setIfInBounds_toArray, List.set_cons_zero, List.set_cons_succ])
        (refine wpAnyZ_takeL (i := 1) (v := ?_) rfl (by kernel_rfl) (fun _ _ _ h => h) (Or.inl ⟨by rfl, ?_⟩) (by assumption) ?_; rotate_left; (focus (intro w' hSw; (try dsimp only at hSw); go_simp; try with_reducible rfl)); simp only [Act.put, List.setIfInBounds_toArray, List.set_cons_zero, List.set_cons_succ])
        (refine wpAnyZ_takeL (i := 2) (v := ?_) rfl (by kernel_rfl) (fun _ _ _ h => h) (Or.inl ⟨by rfl, ?_⟩) (by assumption) ?_; rotate_left; (focus (intro w' hSw; (try dsimp only at hSw); go_simp; try with_reducible rfl)); simp only [Act.put, List.setIfInBounds_toArray, List.set_cons_zero, List.set_cons_succ])
        (refine wpAnyZ_takeL (i := 3) (v := ?_) rfl (by kernel_rfl) (fun _ _ _ h => h) (Or.inl ⟨by rfl, ?_⟩) (by assumption) ?_; rotate_left; (focus (intro w' hSw; (try dsimp only at hSw); go_simp; try with_reducible rfl)); simp only [Act.put, List.setIfInBounds_toArray, List.set_cons_zero, List.set_cons_succ])
        (refine wpAnyZ_takeL (i := 4) (v := ?_) rfl (by kernel_rfl) (fun _ _ _ h => h) (Or.inl ⟨by rfl, ?_⟩) (by assumption) ?_; rotate_left; (focus (intro w' hSw; (try dsimp only at hSw); go_simp; try with_reducible rfl)); simp only [Act.put, List.setIfInBounds_toArray, List.set_cons_zero, List.set_cons_succ])
        (refine wpAnyZ_takeL (i := 5) (v := ?_) rfl (by kernel_rfl) (fun _ _ _ h => h) (Or.inl ⟨by rfl, ?_⟩) (by assumption) ?_; rotate_left; (focus (intro w' hSw; (try dsimp only at hSw); go_simp; try with_reducible rfl)); simp only [Act.put, List.setIfInBounds_toArray, List.set_cons_zero, List.set_cons_succ])
        refine wpAnyZ_ready (rs := [6]) (by kernel_rfl) (by simp) ?_
        refine AllReadyZ.consL rfl (fun K hK => ?_) AllReadyZ.nil
        refine step_buildSlice (by rfl) 64 131 1 #[(0, .tmp 73)] (by rfl) Tryz.underlying64 #[.int .i64 ((R : Int) + 1), .int .i64 bys, .string y.own, .slice p1 y.lgn q1, .int .i64 y.pe, .int .i64 y.len, .int .i64 y.hei, .int .i64 y.cl, .bool y.all, .int .i64 y.be, .int .i64 1, .int .i64 y.unt, .int .i64 pr] (Eq.trans (congrArg (Program.builtSlice Tryz.prog 131 1) (show _ = [(0, Value.agg #[.int .i64 ((R : Int) + 1), .int .i64 bys, .string y.own, .slice p1 y.lgn q1, .int .i64 y.pe, .int .i64 y.len, .int .i64 y.hei, .int .i64 y.cl, .bool y.all, .int .i64 y.be, .int .i64 1, .int .i64 y.unt, .int .i64 pr])] from by first | (simp [go_sem]; done) | rfl | kernel_rfl)) (builtBook ((R : Int) + 1) bys y.pe y.len y.hei y.cl y.be 1 y.unt pr y.own y.all p1 y.lgn q1)) ?_
        refine hK.out _ _ (KS2.out _ (blk_alloc qF _) (blk_alloc bB2 _)) (fun hS => ?_)
        clear hK K
        simp only [Act.put, List.setIfInBounds_toArray, List.set_cons_zero, List.set_cons_succ]
        have hszF : F2.drew.heap.size = F2.heap.size := rfl
        refine wpAnyZ_ready (rs := [7]) (by kernel_rfl) (by simp) ?_
        refine AllReadyZ.consL rfl (fun K hK => ?_) AllReadyZ.nil
        have HEa : Hid (OwnOff (F2.drew.alloc (.cells #[.int .i64 ((R : Int) + 1), .int .i64 bys, .string y.own, .slice p1 y.lgn q1, .int .i64 y.pe, .int .i64 y.len, .int .i64 y.hei, .int .i64 y.cl, .bool y.all, .int .i64 y.be, .int .i64 1, .int .i64 y.unt, .int .i64 pr] 131)) base (.slice asa N csa) (.slice ald N cld) (.slice abk R cbk) N N R x L C A B D E) := HO.out.below (push (Below.drew hbw) _)
        refine step_append_lies _ (by rfl) (.tmp 72) (.tmp 74) 64 (by rfl) base 131 r0 (.agg #[.int .i64 0, .int .i64 0, .string ⟨#[]⟩, .slice none 0 0, .int .i64 0, .int .i64 0, .int .i64 0, .int .i64 0, .bool false, .int .i64 0, .int .i64 0, .int .i64 0, .int .i64 0]) 13 128 Tryz.underlying64 ri rz0 rz1 rz2 rfl (by decide) _ R (bkRow x.bk E R) (by rfl) HEa.out.bk.row _ 1 1 [.int .i64 ((R : Int) + 1), .int .i64 bys, .string y.own, .slice p1 y.lgn q1, .int .i64 y.pe, .int .i64 y.len, .int .i64 y.hei, .int .i64 y.cl, .bool y.all, .int .i64 y.be, .int .i64 1, .int .i64 y.unt, .int .i64 pr] (by rfl) (by rfl) (World.news_of_block (cs := #[.int .i64 ((R : Int) + 1), .int .i64 bys, .string y.own, .slice p1 y.lgn q1, .int .i64 y.pe, .int .i64 y.len, .int .i64 y.hei, .int .i64 y.cl, .bool y.all, .int .i64 y.be, .int .i64 1, .int .i64 y.unt, .int .i64 pr]) (t := 131) (fr := (0, 0)) (heap_alloc_new F2.drew _)) (by intro u hu; simp at hu; rcases hu with rfl | rfl | rfl | rfl | rfl | rfl | rfl | rfl | rfl | rfl | rfl | rfl | rfl <;> rfl) (by decide) (by unfold maxLen; omega) (by omega) (by have := HBW.out; have := hbw.size; simp; omega) _ rfl ?_
        intro g2 cap2 u2 ho2 hg2 hat2 hlt2
        have qU := (kept_row hg2).blk (blk_alloc (blk_drew qF) (.cells #[.int .i64 ((R : Int) + 1), .int .i64 bys, .string y.own, .slice p1 y.lgn q1, .int .i64 y.pe, .int .i64 y.len, .int .i64 y.hei, .int .i64 y.cl, .bool y.all, .int .i64 y.be, .int .i64 1, .int .i64 y.unt, .int .i64 pr] 131)) (fun e => by obtain ⟨cs, e2⟩ := own_blockE HEa.out.bk.row g e; rw [blk_alloc (blk_drew qF) (.cells #[.int .i64 ((R : Int) + 1), .int .i64 bys, .string y.own, .slice p1 y.lgn q1, .int .i64 y.pe, .int .i64 y.len, .int .i64 y.hei, .int .i64 y.cl, .bool y.all, .int .i64 y.be, .int .i64 1, .int .i64 y.unt, .int .i64 pr] 131)] at e2; simp at e2)
        have bU := (kept_row hg2).blk (blk_alloc (blk_drew bB2) (.cells #[.int .i64 ((R : Int) + 1), .int .i64 bys, .string y.own, .slice p1 y.lgn q1, .int .i64 y.pe, .int .i64 y.len, .int .i64 y.hei, .int .i64 y.cl, .bool y.all, .int .i64 y.be, .int .i64 1, .int .i64 y.unt, .int .i64 pr] 131)) (fun e => by have h1 := (HO.out.bk.row.lt bb e).2; have := hb0.size; omega)
        have aU := (kept_row hg2).blk (blk_alloc (blk_drew bAF) (.cells #[.int .i64 ((R : Int) + 1), .int .i64 bys, .string y.own, .slice p1 y.lgn q1, .int .i64 y.pe, .int .i64 y.len, .int .i64 y.hei, .int .i64 y.cl, .bool y.all, .int .i64 y.be, .int .i64 1, .int .i64 y.unt, .int .i64 pr] 131)) (fun e => by have h1 := (HO.out.bk.row.lt _ e).2; omega)
        refine hK.out _ _ (KS2.out _ qU bU) (fun hS => ?_)
        clear hK K
        simp only [Act.put, List.setIfInBounds_toArray, List.set_cons_zero, List.set_cons_succ]
        (refine wpAnyZ_takeL (i := 8) (v := ?_) rfl (by kernel_rfl) (fun _ _ _ h => h) (Or.inl ⟨by rfl, ?_⟩) (by assumption) ?_; rotate_left; (focus (intro w' hSw; (try dsimp only at hSw); go_simp; try with_reducible rfl)); simp only [Act.put, List.setIfInBounds_toArray, List.set_cons_zero, List.set_cons_succ])
        (refine wpAnyZ_takeL (i := 9) (v := ?_) rfl (by kernel_rfl) (fun _ _ _ h => h) (Or.inl ⟨by rfl, ?_⟩) (by assumption) ?_; rotate_left; (focus (intro w' hSw; (try dsimp only at hSw); go_simp; try with_reducible rfl)); simp only [Act.put, List.setIfInBounds_toArray, List.set_cons_zero, List.set_cons_succ])
        have q0 := blk_cell qU 2 _ rfl
        have q1' := blk_free qU 2
        refine wpAnyZ_ready (rs := [10]) (by kernel_rfl) (by simp) ?_
        refine AllReadyZ.lastL rfl (fun K hK => ?_)
        go_simp
        refine hK.out _ _ ?_
        clear hK K
        refine wpAnyZ_done (by kernel_rfl) ?_ _
        have qG := off_at2 qU (.slice (some ⟨g2, 0, none⟩) (R + 1) cap2)
        have bG := blk_set_other (b' := g) bU 2 (.slice (some ⟨g2, 0, none⟩) (R + 1) cap2) (by omega)
        have aG := blk_set_other (b' := g) aU 2 (.slice (some ⟨g2, 0, none⟩) (R + 1) cap2) (by omega)
        have HNB : Hid (newBook R bys y = ⟨(R : Int) + 1, bys, y.own, y.lgn, y.lg, y.pe, y.len, y.hei, y.cl, y.all, y.be, 1, y.unt, pr⟩) := by show _ = _; unfold newBook; rw [HKD.out, ← HPR.out]; rfl
        have HOx : Hid (OwnOff (F2.drew.alloc (.cells #[.int .i64 ((R : Int) + 1), .int .i64 bys, .string y.own, .slice p1 y.lgn q1, .int .i64 y.pe, .int .i64 y.len, .int .i64 y.hei, .int .i64 y.cl, .bool y.all, .int .i64 y.be, .int .i64 1, .int .i64 y.unt, .int .i64 pr] 131)) base (.slice asa N csa) (.slice ald N cld) (.slice abk R cbk) N N R { x with bkn := R + 1, bk := setB x.bk R (newBook R bys y) } L C A B D E) := ⟨HEa.out.sa, HEa.out.ld, HEa.out.bk.congr (fun i hi => (setB_ne _ _ _ (by omega)).symm)⟩
        have HOb : Hid (OwnOff u2 base (.slice asa N csa) (.slice ald N cld) (.slice (some ⟨g2, 0, none⟩) (R + 1) cap2) N N (R + 1) { x with bkn := R + 1, bk := setB x.bk R (newBook R bys y) } L C A B D (atV E R (.slice p1 y.lgn q1))) := by
          refine HOx.out.book (lim := V.heap.size) (fun i hi b e => by have h1 := ((HO.out.bk.legs i hi).lt b e).2; have := hb0.size; omega) ?_ (Nat.le_trans HBW.out hb0.size) hg2 ?_
          · dsimp only
            rw [setB_at, HNB.out]
            exact own_below (push (Below.drew (Below.refl _ _)) _) HR2.out
          · have e1 : bkRow (setB x.bk R (newBook R bys y)) E R = bkRow x.bk E R := List.map_congr_left fun j hj => by
              have hj' : j < R * 13 := by simpa using hj
              unfold recCell bkC
              rw [setB_ne _ _ _ (by omega)]
            dsimp only
            rw [e1]
            unfold bkC
            rw [setB_at, atV_at, HNB.out]
            exact ho2
        have hkg : Kept u2 (u2.setCell ⟨g, 2, none⟩ (.slice (some ⟨g2, 0, none⟩) (R + 1) cap2)) (fun b => b = g) := (Kept.refl u2 (fun b => b = g)).set (a := ⟨g, 2, none⟩) rfl _
        have HOc : Hid _ := HOb.out.box hkg qU (by decide)
        have HKw : Hid (Kept w (u2.setCell ⟨g, 2, none⟩ (.slice (some ⟨g2, 0, none⟩) (R + 1) cap2)) (fun b => b = g ∨ (Value.slice abk R cbk).ownBlock = some b)) := ((Kept.of_below (push (Below.drew hbw) _)).trans ((kept_row hg2).mono (fun b e => .inr e))).trans (hkg.mono (fun b e => .inl e))
        have c0 := blk_cell bG 0 _ rfl
        generalize u2.setCell ⟨g, 2, none⟩ (.slice (some ⟨g2, 0, none⟩) (R + 1) cap2) = Z1 at qG bG aG hkg HOc HKw c0 ⊢
        obtain ⟨HOF, hQF, HKF, bF⟩ := end_fin HKw.out HOc.out qG aG (by omega) (.int .i64 0) (.int .i64 ((R : Int) + 1)) (.int .i64 pr) (.slice none 0 0) rfl
        have v0 := blk_cell aG 0 _ rfl
        have e0 := blk_free aG 0
        have v1 := blk_cell aG 1 _ rfl
        have e1 := blk_free aG 1
        have v2 := blk_cell aG 2 _ rfl
        have e2 := blk_free aG 2
        have v3 := blk_cell aG 3 _ rfl
        have e3 := blk_free aG 3
        have HEND : Hid _ := HOF
        have HEQ : Hid _ := hQF
        have HEK : Hid _ := HKF
        clear HOF hQF HKF
        clear q0 q1' hS hkg ho2
        go_wp2
        have x0 := blk_cell bF 0 _ rfl
        have x1 := blk_cell bF 1 _ rfl
        have x2 := blk_cell bF 2 _ rfl
        have x3 := blk_cell bF 3 _ rfl
        refine bodyPost_ret (v := .agg #[.int .i64 0, .int .i64 ((R : Int) + 1), .int .i64 pr, .slice none 0 0]) (by simp [results, Tryz.results123, go_sem, x0, x1, x2, x3]) rfl ?_
        rw [HPR.out] at HEND HEQ HEK ⊢
        exact ⟨_, _, _, _, rfl, rfl, HEND.out, HEQ.out, HEK.out⟩
      exact AllReadyZ.nil
    exact AllReadyZ.nil
  exact AllReadyZ.nil

end Go.Proofs.YtfallpinmhbemaaGreatDoor

namespace Go.Proofs.YtfallpinmhbemaaGreatDoor
open Go.RowKit

set_option maxHeartbeats 25600000 in
set_option maxRecDepth 100000 in
theorem l7End_3 (g base N R csa cld cbk clg : Nat) (asa ald abk alg : Option Addr) (bys : Int) (y : OpD) (x : Off) (L C A B D E : Nat → Value) (w : World) (hq : w.heap[g]? = some (.cells #[.slice asa N csa, .slice ald N cld, .slice abk R cbk] 66 (0, 0))) (ho : OwnOff w base (.slice asa N csa) (.slice ald N cld) (.slice abk R cbk) N N R x L C A B D E) (hxb : x.bkn = R) (hbw : base ≤ w.heap.size) (hkd : y.kind = 3) (hpe : In y.pe 0 20) (hln : y.lgn ≤ 3) (hlg : IntsAt w alg y.lgn y.lg) (hsl : SliceOk alg y.lgn clg) (hlo : 0 < y.lgn → ∀ a, alg = some a → a.block < base) (hR : R < 30) :
    Calls Tryz.prog 123 #[.pointer (some ⟨g, 0, none⟩), .int .i64 bys, .agg #[.int .i64 y.kind, .string y.own, .int .i64 y.name, .slice alg y.lgn clg, .int .i64 y.pe, .int .i64 y.len, .int .i64 y.hei, .int .i64 y.cl, .bool y.all, .int .i64 y.be, .int .i64 y.unt, .int .i64 y.now]] w fun e w' => EndIs g base N csa cld asa ald (fun b => b = g ∨ (Value.slice abk R cbk).ownBlock = some b) { x with bkn := R + 1, bk := setB x.bk R (newBook R bys y) } 0 ((R : Int) + 1) (priceOf ⟨y.pe, y.len, y.hei, y.cl, y.all, y.be⟩ (y.lgn : Int)) (fun _ v => v = .slice none 0 0) L C A B D w e w' := by
  obtain ⟨n0, ni, nz0, nz1, nz2⟩ := info_parts Tryz.infoInt
  obtain ⟨r0, ri, rz0, rz1, rz2⟩ := info_parts Tryz.infoBookingO
  rw [hkd]
  have HO : Hid (OwnOff w base (.slice asa N csa) (.slice ald N cld) (.slice abk R cbk) N N R x L C A B D E) := ho
  have HQ : Hid (w.heap[g]? = some (.cells #[.slice asa N csa, .slice ald N cld, .slice abk R cbk] 66 (0, 0))) := hq
  have HKD : Hid (y.kind = 3) := hkd
  have HXB : Hid (x.bkn = R) := hxb
  have HBW : Hid (base ≤ w.heap.size) := hbw
  have HLG : Hid (IntsAt w alg y.lgn y.lg) := hlg
  have HSL : Hid (SliceOk alg y.lgn clg) := hsl
  have HLO : Hid (0 < y.lgn → ∀ a, alg = some a → a.block < base) := hlo
  clear ho hq hkd hxb hbw hlg hsl hlo
  obtain ⟨pr, hpr⟩ : ∃ pr, pr = priceOf ⟨y.pe, y.len, y.hei, y.cl, y.all, y.be⟩ (y.lgn : Int) := ⟨_, rfl⟩
  have HPR : Hid (pr = priceOf ⟨y.pe, y.len, y.hei, y.cl, y.all, y.be⟩ (y.lgn : Int)) := hpr
  have hb0 : Below w.heap.size w ((w.alloc (.cells #[.int .i64 3, .string y.own, .int .i64 y.name, .slice alg y.lgn clg, .int .i64 y.pe, .int .i64 y.len, .int .i64 y.hei, .int .i64 y.cl, .bool y.all, .int .i64 y.be, .int .i64 y.unt, .int .i64 y.now] 27)).alloc (.cells #[.int .i64 0, .int .i64 0, .int .i64 0, .slice none 0 0] 127)) := push (push (Below.refl _ _) _) _
  have bO := blk_alloc (heap_alloc_new w (.cells #[.int .i64 3, .string y.own, .int .i64 y.name, .slice alg y.lgn clg, .int .i64 y.pe, .int .i64 y.len, .int .i64 y.hei, .int .i64 y.cl, .bool y.all, .int .i64 y.be, .int .i64 y.unt, .int .i64 y.now] 27)) (.cells #[.int .i64 0, .int .i64 0, .int .i64 0, .slice none 0 0] 127)
  have bA := new2 w (.cells #[.int .i64 3, .string y.own, .int .i64 y.name, .slice alg y.lgn clg, .int .i64 y.pe, .int .i64 y.len, .int .i64 y.hei, .int .i64 y.cl, .bool y.all, .int .i64 y.be, .int .i64 y.unt, .int .i64 y.now] 27) (.cells #[.int .i64 0, .int .i64 0, .int .i64 0, .slice none 0 0] 127)
  go_enter Tryz.func123, Tryz.ntmps123
  go_wp2_with fail
  generalize ((w.alloc (.cells #[.int .i64 3, .string y.own, .int .i64 y.name, .slice alg y.lgn clg, .int .i64 y.pe, .int .i64 y.len, .int .i64 y.hei, .int .i64 y.cl, .bool y.all, .int .i64 y.be, .int .i64 y.unt, .int .i64 y.now] 27)).alloc (.cells #[.int .i64 0, .int .i64 0, .int .i64 0, .slice none 0 0] 127)) = W at hb0 bO bA ⊢
  refine (l6Price0_any y.pe y.len y.hei y.cl y.all y.be (y.lgn : Int) _ hpe (by unfold In; omega)).mono ?_
  rintro e V ⟨rfl, hbv⟩
  rw [← hpr]
  clear hpr
  replace hb0 := after hb0 hbv
  replace bO := blk_below bO hbv
  replace bA := blk_below bA hbv
  clear hbv W
  have o0 := blk_cell bO 0 _ rfl
  have e30 : ((R : Int) == 30) = false := by simp; omega
  have e31 : (R == 30) = false := by simp; omega
  have hwr : IntKind.i64.wrap ((R : Int) + 1) = (R : Int) + 1 := by rw [IntKind.wrap_i64]; omega
  have zq := blk_cell (blk_below HQ.out hb0) 2 _ rfl
  have HLV : Hid (∀ z, Below V.heap.size V z → IntsAt z alg y.lgn y.lg) := fun z h => HLG.out.below (after hb0 h)
  have KS : Hid (∀ z, Below V.heap.size V z → z.cell? ⟨g, 2, none⟩ = some (.slice abk R cbk) ∧ z.cell? ⟨w.heap.size, 1, none⟩ = some (.string y.own) ∧ z.cell? ⟨w.heap.size, 3, none⟩ = some (.slice alg y.lgn clg) ∧ z.cell? ⟨w.heap.size, 4, none⟩ = some (.int .i64 y.pe) ∧ z.cell? ⟨w.heap.size, 5, none⟩ = some (.int .i64 y.len) ∧ z.cell? ⟨w.heap.size, 6, none⟩ = some (.int .i64 y.hei) ∧ z.cell? ⟨w.heap.size, 7, none⟩ = some (.int .i64 y.cl) ∧ z.cell? ⟨w.heap.size, 8, none⟩ = some (.bool y.all) ∧ z.cell? ⟨w.heap.size, 9, none⟩ = some (.int .i64 y.be)) := fun z h => ⟨blk_cell (blk_below HQ.out (after hb0 h)) 2 _ rfl, blk_cell (blk_below bO h) 1 _ rfl, blk_cell (blk_below bO h) 3 _ rfl, blk_cell (blk_below bO h) 4 _ rfl, blk_cell (blk_below bO h) 5 _ rfl, blk_cell (blk_below bO h) 6 _ rfl, blk_cell (blk_below bO h) 7 _ rfl, blk_cell (blk_below bO h) 8 _ rfl, blk_cell (blk_below bO h) 9 _ rfl⟩
  go_upto_region 11 with fail
  refine wp_region_z 18 19 (fun w' => w'.cell? ⟨g, 2, none⟩ = some (.slice abk R cbk) ∧ w'.cell? ⟨w.heap.size, 1, none⟩ = some (.string y.own) ∧ w'.cell? ⟨w.heap.size, 3, none⟩ = some (.slice alg y.lgn clg) ∧ w'.cell? ⟨w.heap.size, 4, none⟩ = some (.int .i64 y.pe) ∧ w'.cell? ⟨w.heap.size, 5, none⟩ = some (.int .i64 y.len) ∧ w'.cell? ⟨w.heap.size, 6, none⟩ = some (.int .i64 y.hei) ∧ w'.cell? ⟨w.heap.size, 7, none⟩ = some (.int .i64 y.cl) ∧ w'.cell? ⟨w.heap.size, 8, none⟩ = some (.bool y.all) ∧ w'.cell? ⟨w.heap.size, 9, none⟩ = some (.int .i64 y.be)) rfl (by kernel_rfl) (KS.out _ (Below.drew (Below.refl _ _))) (fun hS => ?_)
  simp only [List.replicate_succ, List.replicate_zero]
  (refine wpAnyZ_takeL (i := 0) (v := ?_) rfl (by kernel_rfl) (fun _ _ _ h => h) (Or.inl ⟨by rfl, ?_⟩) (by assumption) ?_; rotate_left; (focus (intro w' hSw; (try dsimp only at hSw); go_simp; try with_reducible rfl)); simp only [Act.put, List.setIfInBounds_toArray, List.set_cons_zero, List.set_cons_succ])
  (refine wpAnyZ_takeL (i := 1) (v := ?_) rfl (by kernel_rfl) (fun _ _ _ h => h) (Or.inl ⟨by rfl, ?_⟩) (by assumption) ?_; rotate_left; (focus (intro w' hSw; (try dsimp only at hSw); go_simp; try with_reducible rfl)); simp only [Act.put, List.setIfInBounds_toArray, List.set_cons_zero, List.set_cons_succ])
  (refine wpAnyZ_takeL (i := 2) (v := ?_) rfl (by kernel_rfl) (fun _ _ _ h => h) (Or.inl ⟨by rfl, ?_⟩) (by assumption) ?_; rotate_left; (focus (intro w' hSw; (try dsimp only at hSw); go_simp; try with_reducible rfl)); simp only [Act.put, List.setIfInBounds_toArray, List.set_cons_zero, List.set_cons_succ])
  (refine wpAnyZ_takeL (i := 3) (v := ?_) rfl (by kernel_rfl) (fun _ _ _ h => h) (Or.inl ⟨by rfl, ?_⟩) (by assumption) ?_; rotate_left; (focus (intro w' hSw; (try dsimp only at hSw); go_simp; try with_reducible rfl)); simp only [Act.put, List.setIfInBounds_toArray, List.set_cons_zero, List.set_cons_succ])
  (refine wpAnyZ_takeL (i := 4) (v := ?_) rfl (by kernel_rfl) (fun _ _ _ h => h) (Or.inl ⟨by rfl, ?_⟩) (by assumption) ?_; rotate_left; (focus (intro w' hSw; (try dsimp only at hSw); go_simp; try with_reducible rfl)); simp only [Act.put, List.setIfInBounds_toArray, List.set_cons_zero, List.set_cons_succ])
  (refine wpAnyZ_takeL (i := 5) (v := ?_) rfl (by kernel_rfl) (fun _ _ _ h => h) (Or.inl ⟨by rfl, ?_⟩) (by assumption) ?_; rotate_left; (focus (intro w' hSw; (try dsimp only at hSw); go_simp; try with_reducible rfl)); simp only [Act.put, List.setIfInBounds_toArray, List.set_cons_zero, List.set_cons_succ])
  (refine wpAnyZ_takeL (i := 6) (v := ?_) rfl (by kernel_rfl) (fun _ _ _ h => h) (Or.inl ⟨by rfl, ?_⟩) (by assumption) ?_; rotate_left; (focus (intro w' hSw; (try dsimp only at hSw); go_simp; try with_reducible rfl)); simp only [Act.put, List.setIfInBounds_toArray, List.set_cons_zero, List.set_cons_succ])
  (refine wpAnyZ_takeL (i := 7) (v := ?_) rfl (by kernel_rfl) (fun _ _ _ h => h) (Or.inl ⟨by rfl, ?_⟩) (by assumption) ?_; rotate_left; (focus (intro w' hSw; (try dsimp only at hSw); go_simp; try with_reducible rfl)); simp only [Act.put, List.setIfInBounds_toArray, List.set_cons_zero, List.set_cons_succ])
  (refine wpAnyZ_takeL (i := 8) (v := ?_) rfl (by kernel_rfl) (fun _ _ _ h => h) (Or.inl ⟨by rfl, ?_⟩) (by assumption) ?_; rotate_left; (focus (intro w' hSw; (try dsimp only at hSw); go_simp; try with_reducible rfl)); simp only [Act.put, List.setIfInBounds_toArray, List.set_cons_zero, List.set_cons_succ])
  (refine wpAnyZ_takeL (i := 10) (v := ?_) rfl (by kernel_rfl) (fun _ _ _ h => h) (Or.inl ⟨by rfl, ?_⟩) (by assumption) ?_; rotate_left; (focus (intro w' hSw; (try dsimp only at hSw); go_simp; try with_reducible rfl)); simp only [Act.put, List.setIfInBounds_toArray, List.set_cons_zero, List.set_cons_succ])
  (refine wpAnyZ_takeL (i := 11) (v := ?_) rfl (by kernel_rfl) (fun _ _ _ h => h) (Or.inl ⟨by rfl, ?_⟩) (by assumption) ?_; rotate_left; (focus (intro w' hSw; (try dsimp only at hSw); go_simp; try with_reducible rfl)); simp only [Act.put, List.setIfInBounds_toArray, List.set_cons_zero, List.set_cons_succ])
  (refine wpAnyZ_takeL (i := 13) (v := ?_) rfl (by kernel_rfl) (fun _ _ _ h => h) (Or.inl ⟨by rfl, ?_⟩) (by assumption) ?_; rotate_left; (focus (intro w' hSw; (try dsimp only at hSw); go_simp; try with_reducible rfl)); simp only [Act.put, List.setIfInBounds_toArray, List.set_cons_zero, List.set_cons_succ])
  (refine wpAnyZ_takeL (i := 14) (v := ?_) rfl (by kernel_rfl) (fun _ _ _ h => h) (Or.inl ⟨by rfl, ?_⟩) (by assumption) ?_; rotate_left; (focus (intro w' hSw; (try dsimp only at hSw); go_simp; try with_reducible rfl)); simp only [Act.put, List.setIfInBounds_toArray, List.set_cons_zero, List.set_cons_succ])
  (refine wpAnyZ_takeL (i := 15) (v := ?_) rfl (by kernel_rfl) (fun _ _ _ h => h) (Or.inl ⟨by rfl, ?_⟩) (by assumption) ?_; rotate_left; (focus (intro w' hSw; (try dsimp only at hSw); go_simp; try with_reducible rfl)); simp only [Act.put, List.setIfInBounds_toArray, List.set_cons_zero, List.set_cons_succ])
  refine wpAnyZ_ready (rs := [9, 17]) (by kernel_rfl) (by simp) ?_
  refine AllReadyZ.consL rfl (fun K hK => ?_) ?_
  · go_simp; refine hK.out _ _ (KS.out _ (by repeat (first | with_reducible exact HB1.out | with_reducible exact Below.refl _ _ | with_reducible refine Below.drew ?_ | with_reducible refine push ?_ _))) (fun hS => ?_)
    clear hK K
    simp only [List.set_cons_zero, List.set_cons_succ]
    refine wpAnyZ_ready (rs := [12, 17]) (by kernel_rfl) (by simp) ?_
    refine AllReadyZ.consL rfl (fun K hK => ?_) ?_
    · refine step_append_own0 (by rfl) (.tmp 53) (.tmp 55) 23 (by rfl) 3 n0 (.int .i64 0) 1 8 Tryz.underlying23 ni nz0 nz1 nz2 rfl (by decide) V.heap.size _ (by rfl) (by first | exact Nat.le_refl _ | omega | (simp; done) | (simp; omega)) (by repeat (first | ((with_reducible refine new_at _ _ _ ?_); (first | with_reducible rfl | (simp; done))) | with_reducible refine blk_drew ?_ | with_reducible refine blk_alloc ?_ _)) alg y.lgn clg (intList y.lg y.lgn) (by rfl) HSL.out.2.2 (by rw [intList_length, Nat.mul_one]) (ints_cellsO (HLV.out _ (by repeat (first | exact Below.refl _ _ | refine Below.drew ?_ | refine push ?_ _)))) (intList_one _ _) (by unfold maxLen; omega) (by omega) ?_; intro p1 q1 u1 hg1 hr1 hat1; clear hat1; have HB1 : Hid (Below V.heap.size V u1) := (by show Below _ _ _; refine after ?_ (grown_below hg1); exact (by repeat (first | exact Below.refl _ _ | refine Below.drew ?_ | refine push ?_ _))); refine hK.out _ _ (KS.out _ HB1.out) (fun hS => ?_)
      clear hK K
      simp only [Act.put, List.setIfInBounds_toArray, List.set_cons_zero, List.set_cons_succ]
      (refine wpAnyZ_takeL (i := 16) (v := ?_) rfl (by kernel_rfl) (fun _ _ _ h => h) (Or.inl ⟨by rfl, ?_⟩) (by assumption) ?_; rotate_left; (focus (intro w' hSw; (try dsimp only at hSw); go_simp; try with_reducible rfl)); simp only [Act.put, List.setIfInBounds_toArray, List.set_cons_zero, List.set_cons_succ])
      refine wpAnyZ_ready (rs := [17]) (by kernel_rfl) (by simp) ?_
      refine AllReadyZ.consL rfl (fun K hK => ?_) ?_
      · go_simp; refine hK.out _ _ (KS.out _ (by repeat (first | with_reducible exact HB1.out | with_reducible exact Below.refl _ _ | with_reducible refine Below.drew ?_ | with_reducible refine push ?_ _))) (fun hS => ?_)
        clear hK K
        simp only [List.set_cons_zero, List.set_cons_succ]
        refine wpAnyZ_ready (rs := [18]) (by kernel_rfl) (by simp) ?_
        refine AllReadyZ.lastL rfl (fun K hK => ?_)
        go_simp
        refine hK.out _ _ ?_
        clear hK K
        refine wpAnyZ_done (by kernel_rfl) ?_ _
        have bBF := heap_alloc_new u1 (.cells #[.int .i64 ((R : Int) + 1), .int .i64 bys, .string y.own, .slice p1 y.lgn q1, .int .i64 y.pe, .int .i64 y.len, .int .i64 y.hei, .int .i64 y.cl, .bool y.all, .int .i64 y.be, .int .i64 2, .int .i64 0, .int .i64 pr] 131)
        have hbF := push HB1.out (.cells #[.int .i64 ((R : Int) + 1), .int .i64 bys, .string y.own, .slice p1 y.lgn q1, .int .i64 y.pe, .int .i64 y.len, .int .i64 y.hei, .int .i64 y.cl, .bool y.all, .int .i64 y.be, .int .i64 2, .int .i64 0, .int .i64 pr] 131)
        have HRF : Hid _ := own_below (push (Below.refl _ _) (.cells #[.int .i64 ((R : Int) + 1), .int .i64 bys, .string y.own, .slice p1 y.lgn q1, .int .i64 y.pe, .int .i64 y.len, .int .i64 y.hei, .int .i64 y.cl, .bool y.all, .int .i64 y.be, .int .i64 2, .int .i64 0, .int .i64 pr] 131)) hr1
        generalize u1.alloc (.cells #[.int .i64 ((R : Int) + 1), .int .i64 bys, .string y.own, .slice p1 y.lgn q1, .int .i64 y.pe, .int .i64 y.len, .int .i64 y.hei, .int .i64 y.cl, .bool y.all, .int .i64 y.be, .int .i64 2, .int .i64 0, .int .i64 pr] 131) = F at bBF hbF HRF ⊢
        have hbbV : V.heap.size ≤ u1.heap.size := HB1.out.size
        generalize u1.heap.size = bb at bBF hbbV ⊢
        clear hS hg1 hr1 HB1
        have hbw := after hb0 hbF
        have bOF := blk_below bO hbF
        have bAF := blk_below bA hbF
        have o0 := blk_cell bOF 0 _ rfl
        have hV1 : w.heap.size + 1 < V.heap.size := blk_lt bA
        have c10 := blk_cell bBF 10 _ rfl
        have c11 := blk_cell bBF 11 _ rfl
        have f10 := blk_free bBF 10
        have f11 := blk_free bBF 11
        go_upto_region 15 with fail
        have bB2 := bBF
        have hb2 := hbF
        have HR2 : Hid (F.ownsRow V.heap.size 3 1 (.slice p1 y.lgn q1) y.lgn (intList y.lg y.lgn)) := HRF.out
        generalize F = F2 at bB2 hb2 HR2 bBF hbF HRF hbw bOF bAF o0 c10 c11 f10 f11 ⊢
        clear c10 c11 f10 f11 o0
        clear bBF hbF HRF hbw bOF bAF
        have hbw := after hb0 hb2
        have bOF := blk_below bO hb2
        have bAF := blk_below bA hb2
        have qF := blk_below HQ.out hbw
        have hgw : g < w.heap.size := blk_lt HQ.out
        have KS2 : Hid (∀ z : World, z.heap[g]? = some (.cells #[.slice asa N csa, .slice ald N cld, .slice abk R cbk] 66 (0, 0)) → z.heap[bb]? = some (.cells #[.int .i64 ((R : Int) + 1), .int .i64 bys, .string y.own, .slice p1 y.lgn q1, .int .i64 y.pe, .int .i64 y.len, .int .i64 y.hei, .int .i64 y.cl, .bool y.all, .int .i64 y.be, .int .i64 2, .int .i64 0, .int .i64 pr] 131 (0, 0)) → z.cell? ⟨g, 2, none⟩ = some (.slice abk R cbk) ∧ z.cell? ⟨bb, 0, none⟩ = some (.int .i64 ((R : Int) + 1)) ∧ z.cell? ⟨bb, 1, none⟩ = some (.int .i64 bys) ∧ z.cell? ⟨bb, 2, none⟩ = some (.string y.own) ∧ z.cell? ⟨bb, 3, none⟩ = some (.slice p1 y.lgn q1) ∧ z.cell? ⟨bb, 4, none⟩ = some (.int .i64 y.pe) ∧ z.cell? ⟨bb, 5, none⟩ = some (.int .i64 y.len) ∧ z.cell? ⟨bb, 6, none⟩ = some (.int .i64 y.hei) ∧ z.cell? ⟨bb, 7, none⟩ = some (.int .i64 y.cl) ∧ z.cell? ⟨bb, 8, none⟩ = some (.bool y.all) ∧ z.cell? ⟨bb, 9, none⟩ = some (.int .i64 y.be) ∧ z.cell? ⟨bb, 10, none⟩ = some (.int .i64 2) ∧ z.cell? ⟨bb, 11, none⟩ = some (.int .i64 0) ∧ z.cell? ⟨bb, 12, none⟩ = some (.int .i64 pr)) := fun z h1 h2 => ⟨blk_cell h1 2 _ rfl, blk_cell h2 0 _ rfl, blk_cell h2 1 _ rfl, blk_cell h2 2 _ rfl, blk_cell h2 3 _ rfl, blk_cell h2 4 _ rfl, blk_cell h2 5 _ rfl, blk_cell h2 6 _ rfl, blk_cell h2 7 _ rfl, blk_cell h2 8 _ rfl, blk_cell h2 9 _ rfl, blk_cell h2 10 _ rfl, blk_cell h2 11 _ rfl, blk_cell h2 12 _ rfl⟩
        refine wp_region_z 10 11 (fun w' => w'.cell? ⟨g, 2, none⟩ = some (.slice abk R cbk) ∧ w'.cell? ⟨bb, 0, none⟩ = some (.int .i64 ((R : Int) + 1)) ∧ w'.cell? ⟨bb, 1, none⟩ = some (.int .i64 bys) ∧ w'.cell? ⟨bb, 2, none⟩ = some (.string y.own) ∧ w'.cell? ⟨bb, 3, none⟩ = some (.slice p1 y.lgn q1) ∧ w'.cell? ⟨bb, 4, none⟩ = some (.int .i64 y.pe) ∧ w'.cell? ⟨bb, 5, none⟩ = some (.int .i64 y.len) ∧ w'.cell? ⟨bb, 6, none⟩ = some (.int .i64 y.hei) ∧ w'.cell? ⟨bb, 7, none⟩ = some (.int .i64 y.cl) ∧ w'.cell? ⟨bb, 8, none⟩ = some (.bool y.all) ∧ w'.cell? ⟨bb, 9, none⟩ = some (.int .i64 y.be) ∧ w'.cell? ⟨bb, 10, none⟩ = some (.int .i64 2) ∧ w'.cell? ⟨bb, 11, none⟩ = some (.int .i64 0) ∧ w'.cell? ⟨bb, 12, none⟩ = some (.int .i64 pr)) rfl (by kernel_rfl) (KS2.out _ qF bB2) (fun hS => ?_)
        simp only [List.replicate_succ, List.replicate_zero]
        (refine wpAnyZ_takeL (i := 0) (v := ?_) rfl (by kernel_rfl) (fun _ _ _ h => h) (Or.inl ⟨by rfl, ?_⟩) (by assumption) ?_; rotate_left; (focus (intro w' hSw; (try dsimp only at hSw); go_simp; try with_reducible rfl)); simp only [Act.put, List.setIfInBounds_toArray, List.set_cons_zero, List.set_cons_succ])
        (refine wpAnyZ_takeL (i := 1) (v := ?_) rfl (by kernel_rfl) (fun _ _ _ h => h) (Or.inl ⟨by rfl, ?_⟩) (by assumption) ?_; rotate_left; (focus (intro w' hSw; (try dsimp only at hSw); go_simp; try with_reducible rfl)); simp only [Act.put, List.setIfInBounds_toArray, List.set_cons_zero, List.set_cons_succ])
        (refine wpAnyZ_takeL (i := 2) (v := ?_) rfl (by kernel_rfl) (fun _ _ _ h => h) (Or.inl ⟨by rfl, ?_⟩) (by assumption) ?_; rotate_left; (focus (intro w' hSw; (try dsimp only at hSw); go_simp; try with_reducible rfl)); simp only [Act.put, List.setIfInBounds_toArray, List.set_cons_zero, List.set_cons_succ])
        (refine wpAnyZ_takeL (i := 3) (v := ?_) rfl (by kernel_rfl) (fun _ _ _ h => h) (Or.inl ⟨by rfl, ?_⟩) (by assumption) ?_; rotate_left; (focus (intro w' hSw; (try dsimp only at hSw); go_simp; try with_reducible rfl)); simp only [Act.put, List.setIfInBounds_toArray, List.set_cons_zero, List.set_cons_succ])
        (refine wpAnyZ_takeL (i := 4) (v := ?_) rfl (by kernel_rfl) (fun _ _ _ h => h) (Or.inl ⟨by rfl, ?_⟩) (by assumption) ?_; rotate_left; (focus (intro w' hSw; (try dsimp only at hSw); go_simp; try with_reducible rfl)); simp only [Act.put, List.setIfInBounds_toArray, List.set_cons_zero, List.set_cons_succ])
        (refine wpAnyZ_takeL (i := 5) (v := ?_) rfl (by kernel_rfl) (fun _ _ _ h => h) (Or.inl ⟨by rfl, ?_⟩) (by assumption) ?_; rotate_left; (focus (intro w' hSw; (try dsimp only at hSw); go_simp; try with_reducible rfl)); simp only [Act.put, List.setIfInBounds_toArray, List.set_cons_zero, List.set_cons_succ])
        refine wpAnyZ_ready (rs := [6]) (by kernel_rfl) (by simp) ?_
        refine AllReadyZ.consL rfl (fun K hK => ?_) AllReadyZ.nil
        refine step_buildSlice (by rfl) 64 131 1 #[(0, .tmp 73)] (by rfl) Tryz.underlying64 #[.int .i64 ((R : Int) + 1), .int .i64 bys, .string y.own, .slice p1 y.lgn q1, .int .i64 y.pe, .int .i64 y.len, .int .i64 y.hei, .int .i64 y.cl, .bool y.all, .int .i64 y.be, .int .i64 2, .int .i64 0, .int .i64 pr] (Eq.trans (congrArg (Program.builtSlice Tryz.prog 131 1) (show _ = [(0, Value.agg #[.int .i64 ((R : Int) + 1), .int .i64 bys, .string y.own, .slice p1 y.lgn q1, .int .i64 y.pe, .int .i64 y.len, .int .i64 y.hei, .int .i64 y.cl, .bool y.all, .int .i64 y.be, .int .i64 2, .int .i64 0, .int .i64 pr])] from by first | (simp [go_sem]; done) | rfl | kernel_rfl)) (builtBook ((R : Int) + 1) bys y.pe y.len y.hei y.cl y.be 2 0 pr y.own y.all p1 y.lgn q1)) ?_
        refine hK.out _ _ (KS2.out _ (blk_alloc qF _) (blk_alloc bB2 _)) (fun hS => ?_)
        clear hK K
        simp only [Act.put, List.setIfInBounds_toArray, List.set_cons_zero, List.set_cons_succ]
        have hszF : F2.drew.heap.size = F2.heap.size := rfl
        refine wpAnyZ_ready (rs := [7]) (by kernel_rfl) (by simp) ?_
        refine AllReadyZ.consL rfl (fun K hK => ?_) AllReadyZ.nil
        have HEa : Hid (OwnOff (F2.drew.alloc (.cells #[.int .i64 ((R : Int) + 1), .int .i64 bys, .string y.own, .slice p1 y.lgn q1, .int .i64 y.pe, .int .i64 y.len, .int .i64 y.hei, .int .i64 y.cl, .bool y.all, .int .i64 y.be, .int .i64 2, .int .i64 0, .int .i64 pr] 131)) base (.slice asa N csa) (.slice ald N cld) (.slice abk R cbk) N N R x L C A B D E) := HO.out.below (push (Below.drew hbw) _)
        refine step_append_lies _ (by rfl) (.tmp 72) (.tmp 74) 64 (by rfl) base 131 r0 (.agg #[.int .i64 0, .int .i64 0, .string ⟨#[]⟩, .slice none 0 0, .int .i64 0, .int .i64 0, .int .i64 0, .int .i64 0, .bool false, .int .i64 0, .int .i64 0, .int .i64 0, .int .i64 0]) 13 128 Tryz.underlying64 ri rz0 rz1 rz2 rfl (by decide) _ R (bkRow x.bk E R) (by rfl) HEa.out.bk.row _ 1 1 [.int .i64 ((R : Int) + 1), .int .i64 bys, .string y.own, .slice p1 y.lgn q1, .int .i64 y.pe, .int .i64 y.len, .int .i64 y.hei, .int .i64 y.cl, .bool y.all, .int .i64 y.be, .int .i64 2, .int .i64 0, .int .i64 pr] (by rfl) (by rfl) (World.news_of_block (cs := #[.int .i64 ((R : Int) + 1), .int .i64 bys, .string y.own, .slice p1 y.lgn q1, .int .i64 y.pe, .int .i64 y.len, .int .i64 y.hei, .int .i64 y.cl, .bool y.all, .int .i64 y.be, .int .i64 2, .int .i64 0, .int .i64 pr]) (t := 131) (fr := (0, 0)) (heap_alloc_new F2.drew _)) (by intro u hu; simp at hu; rcases hu with rfl | rfl | rfl | rfl | rfl | rfl | rfl | rfl | rfl | rfl | rfl | rfl | rfl <;> rfl) (by decide) (by unfold maxLen; omega) (by omega) (by have := HBW.out; have := hbw.size; simp; omega) _ rfl ?_
        intro g2 cap2 u2 ho2 hg2 hat2 hlt2
        have qU := (kept_row hg2).blk (blk_alloc (blk_drew qF) (.cells #[.int .i64 ((R : Int) + 1), .int .i64 bys, .string y.own, .slice p1 y.lgn q1, .int .i64 y.pe, .int .i64 y.len, .int .i64 y.hei, .int .i64 y.cl, .bool y.all, .int .i64 y.be, .int .i64 2, .int .i64 0, .int .i64 pr] 131)) (fun e => by obtain ⟨cs, e2⟩ := own_blockE HEa.out.bk.row g e; rw [blk_alloc (blk_drew qF) (.cells #[.int .i64 ((R : Int) + 1), .int .i64 bys, .string y.own, .slice p1 y.lgn q1, .int .i64 y.pe, .int .i64 y.len, .int .i64 y.hei, .int .i64 y.cl, .bool y.all, .int .i64 y.be, .int .i64 2, .int .i64 0, .int .i64 pr] 131)] at e2; simp at e2)
        have bU := (kept_row hg2).blk (blk_alloc (blk_drew bB2) (.cells #[.int .i64 ((R : Int) + 1), .int .i64 bys, .string y.own, .slice p1 y.lgn q1, .int .i64 y.pe, .int .i64 y.len, .int .i64 y.hei, .int .i64 y.cl, .bool y.all, .int .i64 y.be, .int .i64 2, .int .i64 0, .int .i64 pr] 131)) (fun e => by have h1 := (HO.out.bk.row.lt bb e).2; have := hb0.size; omega)
        have aU := (kept_row hg2).blk (blk_alloc (blk_drew bAF) (.cells #[.int .i64 ((R : Int) + 1), .int .i64 bys, .string y.own, .slice p1 y.lgn q1, .int .i64 y.pe, .int .i64 y.len, .int .i64 y.hei, .int .i64 y.cl, .bool y.all, .int .i64 y.be, .int .i64 2, .int .i64 0, .int .i64 pr] 131)) (fun e => by have h1 := (HO.out.bk.row.lt _ e).2; omega)
        refine hK.out _ _ (KS2.out _ qU bU) (fun hS => ?_)
        clear hK K
        simp only [Act.put, List.setIfInBounds_toArray, List.set_cons_zero, List.set_cons_succ]
        (refine wpAnyZ_takeL (i := 8) (v := ?_) rfl (by kernel_rfl) (fun _ _ _ h => h) (Or.inl ⟨by rfl, ?_⟩) (by assumption) ?_; rotate_left; (focus (intro w' hSw; (try dsimp only at hSw); go_simp; try with_reducible rfl)); simp only [Act.put, List.setIfInBounds_toArray, List.set_cons_zero, List.set_cons_succ])
        (refine wpAnyZ_takeL (i := 9) (v := ?_) rfl (by kernel_rfl) (fun _ _ _ h => h) (Or.inl ⟨by rfl, ?_⟩) (by assumption) ?_; rotate_left; (focus (intro w' hSw; (try dsimp only at hSw); go_simp; try with_reducible rfl)); simp only [Act.put, List.setIfInBounds_toArray, List.set_cons_zero, List.set_cons_succ])
        have q0 := blk_cell qU 2 _ rfl
        have q1' := blk_free qU 2
        refine wpAnyZ_ready (rs := [10]) (by kernel_rfl) (by simp) ?_
        refine AllReadyZ.lastL rfl (fun K hK => ?_)
        go_simp
        refine hK.out _ _ ?_
        clear hK K
        refine wpAnyZ_done (by kernel_rfl) ?_ _
        have qG := off_at2 qU (.slice (some ⟨g2, 0, none⟩) (R + 1) cap2)
        have bG := blk_set_other (b' := g) bU 2 (.slice (some ⟨g2, 0, none⟩) (R + 1) cap2) (by omega)
        have aG := blk_set_other (b' := g) aU 2 (.slice (some ⟨g2, 0, none⟩) (R + 1) cap2) (by omega)
        have HNB : Hid (newBook R bys y = ⟨(R : Int) + 1, bys, y.own, y.lgn, y.lg, y.pe, y.len, y.hei, y.cl, y.all, y.be, 2, 0, pr⟩) := by show _ = _; unfold newBook; rw [HKD.out, ← HPR.out]; rfl
        have HOx : Hid (OwnOff (F2.drew.alloc (.cells #[.int .i64 ((R : Int) + 1), .int .i64 bys, .string y.own, .slice p1 y.lgn q1, .int .i64 y.pe, .int .i64 y.len, .int .i64 y.hei, .int .i64 y.cl, .bool y.all, .int .i64 y.be, .int .i64 2, .int .i64 0, .int .i64 pr] 131)) base (.slice asa N csa) (.slice ald N cld) (.slice abk R cbk) N N R { x with bkn := R + 1, bk := setB x.bk R (newBook R bys y) } L C A B D E) := ⟨HEa.out.sa, HEa.out.ld, HEa.out.bk.congr (fun i hi => (setB_ne _ _ _ (by omega)).symm)⟩
        have HOb : Hid (OwnOff u2 base (.slice asa N csa) (.slice ald N cld) (.slice (some ⟨g2, 0, none⟩) (R + 1) cap2) N N (R + 1) { x with bkn := R + 1, bk := setB x.bk R (newBook R bys y) } L C A B D (atV E R (.slice p1 y.lgn q1))) := by
          refine HOx.out.book (lim := V.heap.size) (fun i hi b e => by have h1 := ((HO.out.bk.legs i hi).lt b e).2; have := hb0.size; omega) ?_ (Nat.le_trans HBW.out hb0.size) hg2 ?_
          · dsimp only
            rw [setB_at, HNB.out]
            exact own_below (push (Below.drew (Below.refl _ _)) _) HR2.out
          · have e1 : bkRow (setB x.bk R (newBook R bys y)) E R = bkRow x.bk E R := List.map_congr_left fun j hj => by
              have hj' : j < R * 13 := by simpa using hj
              unfold recCell bkC
              rw [setB_ne _ _ _ (by omega)]
            dsimp only
            rw [e1]
            unfold bkC
            rw [setB_at, atV_at, HNB.out]
            exact ho2
        have hkg : Kept u2 (u2.setCell ⟨g, 2, none⟩ (.slice (some ⟨g2, 0, none⟩) (R + 1) cap2)) (fun b => b = g) := (Kept.refl u2 (fun b => b = g)).set (a := ⟨g, 2, none⟩) rfl _
        have HOc : Hid _ := HOb.out.box hkg qU (by decide)
        have HKw : Hid (Kept w (u2.setCell ⟨g, 2, none⟩ (.slice (some ⟨g2, 0, none⟩) (R + 1) cap2)) (fun b => b = g ∨ (Value.slice abk R cbk).ownBlock = some b)) := ((Kept.of_below (push (Below.drew hbw) _)).trans ((kept_row hg2).mono (fun b e => .inr e))).trans (hkg.mono (fun b e => .inl e))
        have c0 := blk_cell bG 0 _ rfl
        generalize u2.setCell ⟨g, 2, none⟩ (.slice (some ⟨g2, 0, none⟩) (R + 1) cap2) = Z1 at qG bG aG hkg HOc HKw c0 ⊢
        obtain ⟨HOF, hQF, HKF, bF⟩ := end_fin HKw.out HOc.out qG aG (by omega) (.int .i64 0) (.int .i64 ((R : Int) + 1)) (.int .i64 pr) (.slice none 0 0) rfl
        have v0 := blk_cell aG 0 _ rfl
        have e0 := blk_free aG 0
        have v1 := blk_cell aG 1 _ rfl
        have e1 := blk_free aG 1
        have v2 := blk_cell aG 2 _ rfl
        have e2 := blk_free aG 2
        have v3 := blk_cell aG 3 _ rfl
        have e3 := blk_free aG 3
        have HEND : Hid _ := HOF
        have HEQ : Hid _ := hQF
        have HEK : Hid _ := HKF
        clear HOF hQF HKF
        clear q0 q1' hS hkg ho2
        go_wp2
        have x0 := blk_cell bF 0 _ rfl
        have x1 := blk_cell bF 1 _ rfl
        have x2 := blk_cell bF 2 _ rfl
        have x3 := blk_cell bF 3 _ rfl
        refine bodyPost_ret (v := .agg #[.int .i64 0, .int .i64 ((R : Int) + 1), .int .i64 pr, .slice none 0 0]) (by simp [results, Tryz.results123, go_sem, x0, x1, x2, x3]) rfl ?_
        rw [HPR.out] at HEND HEQ HEK ⊢
        exact ⟨_, _, _, _, rfl, rfl, HEND.out, HEQ.out, HEK.out⟩
      exact AllReadyZ.nil
    refine AllReadyZ.consL rfl (fun K hK => ?_) ?_
    · go_simp; refine hK.out _ _ (KS.out _ (by repeat (first | with_reducible exact HB1.out | with_reducible exact Below.refl _ _ | with_reducible refine Below.drew ?_ | with_reducible refine push ?_ _))) (fun hS => ?_)
      clear hK K
      simp only [List.set_cons_zero, List.set_cons_succ]
      refine wpAnyZ_ready (rs := [12]) (by kernel_rfl) (by simp) ?_
      refine AllReadyZ.consL rfl (fun K hK => ?_) ?_
      · refine step_append_own0 (by rfl) (.tmp 53) (.tmp 55) 23 (by rfl) 3 n0 (.int .i64 0) 1 8 Tryz.underlying23 ni nz0 nz1 nz2 rfl (by decide) V.heap.size _ (by rfl) (by first | exact Nat.le_refl _ | omega | (simp; done) | (simp; omega)) (by repeat (first | ((with_reducible refine new_at _ _ _ ?_); (first | with_reducible rfl | (simp; done))) | with_reducible refine blk_drew ?_ | with_reducible refine blk_alloc ?_ _)) alg y.lgn clg (intList y.lg y.lgn) (by rfl) HSL.out.2.2 (by rw [intList_length, Nat.mul_one]) (ints_cellsO (HLV.out _ (by repeat (first | exact Below.refl _ _ | refine Below.drew ?_ | refine push ?_ _)))) (intList_one _ _) (by unfold maxLen; omega) (by omega) ?_; intro p1 q1 u1 hg1 hr1 hat1; clear hat1; have HB1 : Hid (Below V.heap.size V u1) := (by show Below _ _ _; refine after ?_ (grown_below hg1); exact (by repeat (first | exact Below.refl _ _ | refine Below.drew ?_ | refine push ?_ _))); refine hK.out _ _ (KS.out _ HB1.out) (fun hS => ?_)
        clear hK K
        simp only [Act.put, List.setIfInBounds_toArray, List.set_cons_zero, List.set_cons_succ]
        (refine wpAnyZ_takeL (i := 16) (v := ?_) rfl (by kernel_rfl) (fun _ _ _ h => h) (Or.inl ⟨by rfl, ?_⟩) (by assumption) ?_; rotate_left; (focus (intro w' hSw; (try dsimp only at hSw); go_simp; try with_reducible rfl)); simp only [Act.put, List.setIfInBounds_toArray, List.set_cons_zero, List.set_cons_succ])
        have hbx : u1.heap[V.heap.size + 1]? = some (.cells #[.int .i64 0, .int .i64 0, .string ⟨#[]⟩, .slice none 0 0, .int .i64 0, .int .i64 0, .int .i64 0, .int .i64 0, .bool false, .int .i64 0, .int .i64 0, .int .i64 0, .int .i64 0] 131 (0, 0)) := blk_below (by repeat (first | ((with_reducible refine new_at _ _ _ ?_); (first | with_reducible rfl | (simp; done))) | with_reducible refine blk_drew ?_ | with_reducible refine blk_alloc ?_ _)) (grown_below hg1)
        have bx0 := blk_cell hbx 0 _ rfl
        have bf0 := blk_free hbx 0
        have bx1 := blk_cell hbx 1 _ rfl
        have bf1 := blk_free hbx 1
        have bx2 := blk_cell hbx 2 _ rfl
        have bf2 := blk_free hbx 2
        have bx3 := blk_cell hbx 3 _ rfl
        have bf3 := blk_free hbx 3
        have bx4 := blk_cell hbx 4 _ rfl
        have bf4 := blk_free hbx 4
        have bx5 := blk_cell hbx 5 _ rfl
        have bf5 := blk_free hbx 5
        have bx6 := blk_cell hbx 6 _ rfl
        have bf6 := blk_free hbx 6
        have bx7 := blk_cell hbx 7 _ rfl
        have bf7 := blk_free hbx 7
        have bx8 := blk_cell hbx 8 _ rfl
        have bf8 := blk_free hbx 8
        have bx9 := blk_cell hbx 9 _ rfl
        have bf9 := blk_free hbx 9
        have bx10 := blk_cell hbx 10 _ rfl
        have bf10 := blk_free hbx 10
        have bx11 := blk_cell hbx 11 _ rfl
        have bf11 := blk_free hbx 11
        have bx12 := blk_cell hbx 12 _ rfl
        have bf12 := blk_free hbx 12
        refine wpAnyZ_ready (rs := [18]) (by kernel_rfl) (by simp) ?_
        refine AllReadyZ.lastL rfl (fun K hK => ?_)
        go_simp
        refine hK.out _ _ ?_
        clear hK K
        refine wpAnyZ_done (by kernel_rfl) ?_ _
        have bBF := book_set hbx (.int .i64 ((R : Int) + 1)) (.int .i64 bys) (.string y.own) (.slice p1 y.lgn q1) (.int .i64 y.pe) (.int .i64 y.len) (.int .i64 y.hei) (.int .i64 y.cl) (.bool y.all) (.int .i64 y.be) (.int .i64 2) (.int .i64 0) (.int .i64 pr)
        have hbF := book_low HB1.out (b := V.heap.size + 1) (by omega) (.int .i64 ((R : Int) + 1)) (.int .i64 bys) (.string y.own) (.slice p1 y.lgn q1) (.int .i64 y.pe) (.int .i64 y.len) (.int .i64 y.hei) (.int .i64 y.cl) (.bool y.all) (.int .i64 y.be) (.int .i64 2) (.int .i64 0) (.int .i64 pr)
        have HRF : Hid _ := (book_keep u1 (V.heap.size + 1) (.int .i64 ((R : Int) + 1)) (.int .i64 bys) (.string y.own) (.slice p1 y.lgn q1) (.int .i64 y.pe) (.int .i64 y.len) (.int .i64 y.hei) (.int .i64 y.cl) (.bool y.all) (.int .i64 y.be) (.int .i64 2) (.int .i64 0) (.int .i64 pr)).own hr1 (own_notE hr1 hbx (by decide))
        clear hbx bx0 bf0 bx1 bf1 bx2 bf2 bx3 bf3 bx4 bf4 bx5 bf5 bx6 bf6 bx7 bf7 bx8 bf8 bx9 bf9 bx10 bf10 bx11 bf11 bx12 bf12
        generalize (((((((((((((u1.setCell ⟨V.heap.size + 1, 0, none⟩ (.int .i64 ((R : Int) + 1))).setCell ⟨V.heap.size + 1, 1, none⟩ (.int .i64 bys)).setCell ⟨V.heap.size + 1, 2, none⟩ (.string y.own)).setCell ⟨V.heap.size + 1, 3, none⟩ (.slice p1 y.lgn q1)).setCell ⟨V.heap.size + 1, 4, none⟩ (.int .i64 y.pe)).setCell ⟨V.heap.size + 1, 5, none⟩ (.int .i64 y.len)).setCell ⟨V.heap.size + 1, 6, none⟩ (.int .i64 y.hei)).setCell ⟨V.heap.size + 1, 7, none⟩ (.int .i64 y.cl)).setCell ⟨V.heap.size + 1, 8, none⟩ (.bool y.all)).setCell ⟨V.heap.size + 1, 9, none⟩ (.int .i64 y.be)).setCell ⟨V.heap.size + 1, 10, none⟩ (.int .i64 2)).setCell ⟨V.heap.size + 1, 11, none⟩ (.int .i64 0)).setCell ⟨V.heap.size + 1, 12, none⟩ (.int .i64 pr)) = F at bBF hbF HRF ⊢
        have hbbV : V.heap.size ≤ V.heap.size + 1 := (by omega)
        generalize V.heap.size + 1 = bb at bBF hbbV ⊢
        clear hS hg1 hr1 HB1
        have hbw := after hb0 hbF
        have bOF := blk_below bO hbF
        have bAF := blk_below bA hbF
        have o0 := blk_cell bOF 0 _ rfl
        have hV1 : w.heap.size + 1 < V.heap.size := blk_lt bA
        have c10 := blk_cell bBF 10 _ rfl
        have c11 := blk_cell bBF 11 _ rfl
        have f10 := blk_free bBF 10
        have f11 := blk_free bBF 11
        go_upto_region 15 with fail
        have bB2 := bBF
        have hb2 := hbF
        have HR2 : Hid (F.ownsRow V.heap.size 3 1 (.slice p1 y.lgn q1) y.lgn (intList y.lg y.lgn)) := HRF.out
        generalize F = F2 at bB2 hb2 HR2 bBF hbF HRF hbw bOF bAF o0 c10 c11 f10 f11 ⊢
        clear c10 c11 f10 f11 o0
        clear bBF hbF HRF hbw bOF bAF
        have hbw := after hb0 hb2
        have bOF := blk_below bO hb2
        have bAF := blk_below bA hb2
        have qF := blk_below HQ.out hbw
        have hgw : g < w.heap.size := blk_lt HQ.out
        have KS2 : Hid (∀ z : World, z.heap[g]? = some (.cells #[.slice asa N csa, .slice ald N cld, .slice abk R cbk] 66 (0, 0)) → z.heap[bb]? = some (.cells #[.int .i64 ((R : Int) + 1), .int .i64 bys, .string y.own, .slice p1 y.lgn q1, .int .i64 y.pe, .int .i64 y.len, .int .i64 y.hei, .int .i64 y.cl, .bool y.all, .int .i64 y.be, .int .i64 2, .int .i64 0, .int .i64 pr] 131 (0, 0)) → z.cell? ⟨g, 2, none⟩ = some (.slice abk R cbk) ∧ z.cell? ⟨bb, 0, none⟩ = some (.int .i64 ((R : Int) + 1)) ∧ z.cell? ⟨bb, 1, none⟩ = some (.int .i64 bys) ∧ z.cell? ⟨bb, 2, none⟩ = some (.string y.own) ∧ z.cell? ⟨bb, 3, none⟩ = some (.slice p1 y.lgn q1) ∧ z.cell? ⟨bb, 4, none⟩ = some (.int .i64 y.pe) ∧ z.cell? ⟨bb, 5, none⟩ = some (.int .i64 y.len) ∧ z.cell? ⟨bb, 6, none⟩ = some (.int .i64 y.hei) ∧ z.cell? ⟨bb, 7, none⟩ = some (.int .i64 y.cl) ∧ z.cell? ⟨bb, 8, none⟩ = some (.bool y.all) ∧ z.cell? ⟨bb, 9, none⟩ = some (.int .i64 y.be) ∧ z.cell? ⟨bb, 10, none⟩ = some (.int .i64 2) ∧ z.cell? ⟨bb, 11, none⟩ = some (.int .i64 0) ∧ z.cell? ⟨bb, 12, none⟩ = some (.int .i64 pr)) := fun z h1 h2 => ⟨blk_cell h1 2 _ rfl, blk_cell h2 0 _ rfl, blk_cell h2 1 _ rfl, blk_cell h2 2 _ rfl, blk_cell h2 3 _ rfl, blk_cell h2 4 _ rfl, blk_cell h2 5 _ rfl, blk_cell h2 6 _ rfl, blk_cell h2 7 _ rfl, blk_cell h2 8 _ rfl, blk_cell h2 9 _ rfl, blk_cell h2 10 _ rfl, blk_cell h2 11 _ rfl, blk_cell h2 12 _ rfl⟩
        refine wp_region_z 10 11 (fun w' => w'.cell? ⟨g, 2, none⟩ = some (.slice abk R cbk) ∧ w'.cell? ⟨bb, 0, none⟩ = some (.int .i64 ((R : Int) + 1)) ∧ w'.cell? ⟨bb, 1, none⟩ = some (.int .i64 bys) ∧ w'.cell? ⟨bb, 2, none⟩ = some (.string y.own) ∧ w'.cell? ⟨bb, 3, none⟩ = some (.slice p1 y.lgn q1) ∧ w'.cell? ⟨bb, 4, none⟩ = some (.int .i64 y.pe) ∧ w'.cell? ⟨bb, 5, none⟩ = some (.int .i64 y.len) ∧ w'.cell? ⟨bb, 6, none⟩ = some (.int .i64 y.hei) ∧ w'.cell? ⟨bb, 7, none⟩ = some (.int .i64 y.cl) ∧ w'.cell? ⟨bb, 8, none⟩ = some (.bool y.all) ∧ w'.cell? ⟨bb, 9, none⟩ = some (.int .i64 y.be) ∧ w'.cell? ⟨bb, 10, none⟩ = some (.int .i64 2) ∧ w'.cell? ⟨bb, 11, none⟩ = some (.int .i64 0) ∧ w'.cell? ⟨bb, 12, none⟩ = some (.int .i64 pr)) rfl (by kernel_rfl) (KS2.out _ qF bB2) (fun hS => ?_)
        simp only [List.replicate_succ, List.replicate_zero]
        (refine wpAnyZ_takeL (i := 0) (v := ?_) rfl (by kernel_rfl) (fun _ _ _ h => h) (Or.inl ⟨by rfl, ?_⟩) (by assumption) ?_; rotate_left; (focus (intro w' hSw; (try dsimp only at hSw); go_simp; try with_reducible rfl)); simp only [Act.put, List.setIfInBounds_toArray, List.set_cons_zero, List.set_cons_succ])
        (refine wpAnyZ_takeL (i := 1) (v := ?_) rfl (by kernel_rfl) (fun _ _ _ h => h) (Or.inl ⟨by rfl, ?_⟩) (by assumption) ?_; rotate_left; (focus (intro w' hSw; (try dsimp only at hSw); go_simp; try with_reducible rfl)); simp only [Act.put, List.setIfInBounds_toArray, List.set_cons_zero, List.set_cons_succ])
        (refine wpAnyZ_takeL (i := 2) (v := ?_) rfl (by kernel_rfl) (fun _ _ _ h => h) (Or.inl ⟨by rfl, ?_⟩) (by assumption) ?_; rotate_left; (focus (intro w' hSw; (try dsimp only at hSw); go_simp; try with_reducible rfl)); simp only [Act.put, List.setIfInBounds_toArray, List.set_cons_zero, List.set_cons_succ])
        (refine wpAnyZ_takeL (i := 3) (v := ?_) rfl (by kernel_rfl) (fun _ _ _ h => h) (Or.inl ⟨by rfl, ?_⟩) (by assumption) ?_; rotate_left; (focus (intro w' hSw; (try dsimp only at hSw); go_simp; try with_reducible rfl)); simp only [Act.put, List.setIfInBounds_toArray, List.set_cons_zero, List.set_cons_succ])
        (refine wpAnyZ_takeL (i := 4) (v := ?_) rfl (by kernel_rfl) (fun _ _ _ h => h) (Or.inl ⟨by rfl, ?_⟩) (by assumption) ?_; rotate_left; (focus (intro w' hSw; (try dsimp only at hSw); go_simp; try with_reducible rfl)); simp only [Act.put, List.setIfInBounds_toArray, List.set_cons_zero, List.set_cons_succ])
        (refine wpAnyZ_takeL (i := 5) (v := ?_) rfl (by kernel_rfl) (fun _ _ _ h => h) (Or.inl ⟨by rfl, ?_⟩) (by assumption) ?_; rotate_left; (focus (intro w' hSw; (try dsimp only at hSw); go_simp; try with_reducible rfl)); simp only [Act.put, List.setIfInBounds_toArray, List.set_cons_zero, List.set_cons_succ])
        refine wpAnyZ_ready (rs := [6]) (by kernel_rfl) (by simp) ?_
        refine AllReadyZ.consL rfl (fun K hK => ?_) AllReadyZ.nil
        refine step_buildSlice (by rfl) 64 131 1 #[(0, .tmp 73)] (by rfl) Tryz.underlying64 #[.int .i64 ((R : Int) + 1), .int .i64 bys, .string y.own, .slice p1 y.lgn q1, .int .i64 y.pe, .int .i64 y.len, .int .i64 y.hei, .int .i64 y.cl, .bool y.all, .int .i64 y.be, .int .i64 2, .int .i64 0, .int .i64 pr] (Eq.trans (congrArg (Program.builtSlice Tryz.prog 131 1) (show _ = [(0, Value.agg #[.int .i64 ((R : Int) + 1), .int .i64 bys, .string y.own, .slice p1 y.lgn q1, .int .i64 y.pe, .int .i64 y.len, .int .i64 y.hei, .int .i64 y.cl, .bool y.all, .int .i64 y.be, .int .i64 2, .int .i64 0, .int .i64 pr])] from by first | (simp [go_sem]; done) | rfl | kernel_rfl)) (builtBook ((R : Int) + 1) bys y.pe y.len y.hei y.cl y.be 2 0 pr y.own y.all p1 y.lgn q1)) ?_
        refine hK.out _ _ (KS2.out _ (blk_alloc qF _) (blk_alloc bB2 _)) (fun hS => ?_)
        clear hK K
        simp only [Act.put, List.setIfInBounds_toArray, List.set_cons_zero, List.set_cons_succ]
        have hszF : F2.drew.heap.size = F2.heap.size := rfl
        refine wpAnyZ_ready (rs := [7]) (by kernel_rfl) (by simp) ?_
        refine AllReadyZ.consL rfl (fun K hK => ?_) AllReadyZ.nil
        have HEa : Hid (OwnOff (F2.drew.alloc (.cells #[.int .i64 ((R : Int) + 1), .int .i64 bys, .string y.own, .slice p1 y.lgn q1, .int .i64 y.pe, .int .i64 y.len, .int .i64 y.hei, .int .i64 y.cl, .bool y.all, .int .i64 y.be, .int .i64 2, .int .i64 0, .int .i64 pr] 131)) base (.slice asa N csa) (.slice ald N cld) (.slice abk R cbk) N N R x L C A B D E) := HO.out.below (push (Below.drew hbw) _)
        refine step_append_lies _ (by rfl) (.tmp 72) (.tmp 74) 64 (by rfl) base 131 r0 (.agg #[.int .i64 0, .int .i64 0, .string ⟨#[]⟩, .slice none 0 0, .int .i64 0, .int .i64 0, .int .i64 0, .int .i64 0, .bool false, .int .i64 0, .int .i64 0, .int .i64 0, .int .i64 0]) 13 128 Tryz.underlying64 ri rz0 rz1 rz2 rfl (by decide) _ R (bkRow x.bk E R) (by rfl) HEa.out.bk.row _ 1 1 [.int .i64 ((R : Int) + 1), .int .i64 bys, .string y.own, .slice p1 y.lgn q1, .int .i64 y.pe, .int .i64 y.len, .int .i64 y.hei, .int .i64 y.cl, .bool y.all, .int .i64 y.be, .int .i64 2, .int .i64 0, .int .i64 pr] (by rfl) (by rfl) (World.news_of_block (cs := #[.int .i64 ((R : Int) + 1), .int .i64 bys, .string y.own, .slice p1 y.lgn q1, .int .i64 y.pe, .int .i64 y.len, .int .i64 y.hei, .int .i64 y.cl, .bool y.all, .int .i64 y.be, .int .i64 2, .int .i64 0, .int .i64 pr]) (t := 131) (fr := (0, 0)) (heap_alloc_new F2.drew _)) (by intro u hu; simp at hu; rcases hu with rfl | rfl | rfl | rfl | rfl | rfl | rfl | rfl | rfl | rfl | rfl | rfl | rfl <;> rfl) (by decide) (by unfold maxLen; omega) (by omega) (by have := HBW.out; have := hbw.size; simp; omega) _ rfl ?_
        intro g2 cap2 u2 ho2 hg2 hat2 hlt2
        have qU := (kept_row hg2).blk (blk_alloc (blk_drew qF) (.cells #[.int .i64 ((R : Int) + 1), .int .i64 bys, .string y.own, .slice p1 y.lgn q1, .int .i64 y.pe, .int .i64 y.len, .int .i64 y.hei, .int .i64 y.cl, .bool y.all, .int .i64 y.be, .int .i64 2, .int .i64 0, .int .i64 pr] 131)) (fun e => by obtain ⟨cs, e2⟩ := own_blockE HEa.out.bk.row g e; rw [blk_alloc (blk_drew qF) (.cells #[.int .i64 ((R : Int) + 1), .int .i64 bys, .string y.own, .slice p1 y.lgn q1, .int .i64 y.pe, .int .i64 y.len, .int .i64 y.hei, .int .i64 y.cl, .bool y.all, .int .i64 y.be, .int .i64 2, .int .i64 0, .int .i64 pr] 131)] at e2; simp at e2)
        have bU := (kept_row hg2).blk (blk_alloc (blk_drew bB2) (.cells #[.int .i64 ((R : Int) + 1), .int .i64 bys, .string y.own, .slice p1 y.lgn q1, .int .i64 y.pe, .int .i64 y.len, .int .i64 y.hei, .int .i64 y.cl, .bool y.all, .int .i64 y.be, .int .i64 2, .int .i64 0, .int .i64 pr] 131)) (fun e => by have h1 := (HO.out.bk.row.lt bb e).2; have := hb0.size; omega)
        have aU := (kept_row hg2).blk (blk_alloc (blk_drew bAF) (.cells #[.int .i64 ((R : Int) + 1), .int .i64 bys, .string y.own, .slice p1 y.lgn q1, .int .i64 y.pe, .int .i64 y.len, .int .i64 y.hei, .int .i64 y.cl, .bool y.all, .int .i64 y.be, .int .i64 2, .int .i64 0, .int .i64 pr] 131)) (fun e => by have h1 := (HO.out.bk.row.lt _ e).2; omega)
        refine hK.out _ _ (KS2.out _ qU bU) (fun hS => ?_)
        clear hK K
        simp only [Act.put, List.setIfInBounds_toArray, List.set_cons_zero, List.set_cons_succ]
        (refine wpAnyZ_takeL (i := 8) (v := ?_) rfl (by kernel_rfl) (fun _ _ _ h => h) (Or.inl ⟨by rfl, ?_⟩) (by assumption) ?_; rotate_left; (focus (intro w' hSw; (try dsimp only at hSw); go_simp; try with_reducible rfl)); simp only [Act.put, List.setIfInBounds_toArray, List.set_cons_zero, List.set_cons_succ])
        (refine wpAnyZ_takeL (i := 9) (v := ?_) rfl (by kernel_rfl) (fun _ _ _ h => h) (Or.inl ⟨by rfl, ?_⟩) (by assumption) ?_; rotate_left; (focus (intro w' hSw; (try dsimp only at hSw); go_simp; try with_reducible rfl)); simp only [Act.put, List.setIfInBounds_toArray, List.set_cons_zero, List.set_cons_succ])
        have q0 := blk_cell qU 2 _ rfl
        have q1' := blk_free qU 2
        refine wpAnyZ_ready (rs := [10]) (by kernel_rfl) (by simp) ?_
        refine AllReadyZ.lastL rfl (fun K hK => ?_)
        go_simp
        refine hK.out _ _ ?_
        clear hK K
        refine wpAnyZ_done (by kernel_rfl) ?_ _
        have qG := off_at2 qU (.slice (some ⟨g2, 0, none⟩) (R + 1) cap2)
        have bG := blk_set_other (b' := g) bU 2 (.slice (some ⟨g2, 0, none⟩) (R + 1) cap2) (by omega)
        have aG := blk_set_other (b' := g) aU 2 (.slice (some ⟨g2, 0, none⟩) (R + 1) cap2) (by omega)
        have HNB : Hid (newBook R bys y = ⟨(R : Int) + 1, bys, y.own, y.lgn, y.lg, y.pe, y.len, y.hei, y.cl, y.all, y.be, 2, 0, pr⟩) := by show _ = _; unfold newBook; rw [HKD.out, ← HPR.out]; rfl
        have HOx : Hid (OwnOff (F2.drew.alloc (.cells #[.int .i64 ((R : Int) + 1), .int .i64 bys, .string y.own, .slice p1 y.lgn q1, .int .i64 y.pe, .int .i64 y.len, .int .i64 y.hei, .int .i64 y.cl, .bool y.all, .int .i64 y.be, .int .i64 2, .int .i64 0, .int .i64 pr] 131)) base (.slice asa N csa) (.slice ald N cld) (.slice abk R cbk) N N R { x with bkn := R + 1, bk := setB x.bk R (newBook R bys y) } L C A B D E) := ⟨HEa.out.sa, HEa.out.ld, HEa.out.bk.congr (fun i hi => (setB_ne _ _ _ (by omega)).symm)⟩
        have HOb : Hid (OwnOff u2 base (.slice asa N csa) (.slice ald N cld) (.slice (some ⟨g2, 0, none⟩) (R + 1) cap2) N N (R + 1) { x with bkn := R + 1, bk := setB x.bk R (newBook R bys y) } L C A B D (atV E R (.slice p1 y.lgn q1))) := by
          refine HOx.out.book (lim := V.heap.size) (fun i hi b e => by have h1 := ((HO.out.bk.legs i hi).lt b e).2; have := hb0.size; omega) ?_ (Nat.le_trans HBW.out hb0.size) hg2 ?_
          · dsimp only
            rw [setB_at, HNB.out]
            exact own_below (push (Below.drew (Below.refl _ _)) _) HR2.out
          · have e1 : bkRow (setB x.bk R (newBook R bys y)) E R = bkRow x.bk E R := List.map_congr_left fun j hj => by
              have hj' : j < R * 13 := by simpa using hj
              unfold recCell bkC
              rw [setB_ne _ _ _ (by omega)]
            dsimp only
            rw [e1]
            unfold bkC
            rw [setB_at, atV_at, HNB.out]
            exact ho2
        have hkg : Kept u2 (u2.setCell ⟨g, 2, none⟩ (.slice (some ⟨g2, 0, none⟩) (R + 1) cap2)) (fun b => b = g) := (Kept.refl u2 (fun b => b = g)).set (a := ⟨g, 2, none⟩) rfl _
        have HOc : Hid _ := HOb.out.box hkg qU (by decide)
        have HKw : Hid (Kept w (u2.setCell ⟨g, 2, none⟩ (.slice (some ⟨g2, 0, none⟩) (R + 1) cap2)) (fun b => b = g ∨ (Value.slice abk R cbk).ownBlock = some b)) := ((Kept.of_below (push (Below.drew hbw) _)).trans ((kept_row hg2).mono (fun b e => .inr e))).trans (hkg.mono (fun b e => .inl e))
        have c0 := blk_cell bG 0 _ rfl
        generalize u2.setCell ⟨g, 2, none⟩ (.slice (some ⟨g2, 0, none⟩) (R + 1) cap2) = Z1 at qG bG aG hkg HOc HKw c0 ⊢
        obtain ⟨HOF, hQF, HKF, bF⟩ := end_fin HKw.out HOc.out qG aG (by omega) (.int .i64 0) (.int .i64 ((R : Int) + 1)) (.int .i64 pr) (.slice none 0 0) rfl
        have v0 := blk_cell aG 0 _ rfl
        have e0 := blk_free aG 0
        have v1 := blk_cell aG 1 _ rfl
        have e1 := blk_free aG 1
        have v2 := blk_cell aG 2 _ rfl
        have e2 := blk_free aG 2
        have v3 := blk_cell aG 3 _ rfl
        have e3 := blk_free aG 3
        have HEND : Hid _ := HOF
        have HEQ : Hid _ := hQF
        have HEK : Hid _ := HKF
        clear HOF hQF HKF
        clear q0 q1' hS hkg ho2
        go_wp2
        have x0 := blk_cell bF 0 _ rfl
        have x1 := blk_cell bF 1 _ rfl
        have x2 := blk_cell bF 2 _ rfl
        have x3 := blk_cell bF 3 _ rfl
        refine bodyPost_ret (v := .agg #[.int .i64 0, .int .i64 ((R : Int) + 1), .int .i64 pr, .slice none 0 0]) (by simp [results, Tryz.results123, go_sem, x0, x1, x2, x3]) rfl ?_
        rw [HPR.out] at HEND HEQ HEK ⊢
        exact ⟨_, _, _, _, rfl, rfl, HEND.out, HEQ.out, HEK.out⟩
      exact AllReadyZ.nil
    exact AllReadyZ.nil
  refine AllReadyZ.consL rfl (fun K hK => ?_) ?_
  · go_simp; refine hK.out _ _ (KS.out _ (by repeat (first | with_reducible exact HB1.out | with_reducible exact Below.refl _ _ | with_reducible refine Below.drew ?_ | with_reducible refine push ?_ _))) (fun hS => ?_)
    clear hK K
    simp only [List.set_cons_zero, List.set_cons_succ]
    refine wpAnyZ_ready (rs := [9]) (by kernel_rfl) (by simp) ?_
    refine AllReadyZ.consL rfl (fun K hK => ?_) ?_
    · go_simp; refine hK.out _ _ (KS.out _ (by repeat (first | with_reducible exact HB1.out | with_reducible exact Below.refl _ _ | with_reducible refine Below.drew ?_ | with_reducible refine push ?_ _))) (fun hS => ?_)
      clear hK K
      simp only [List.set_cons_zero, List.set_cons_succ]
      refine wpAnyZ_ready (rs := [12]) (by kernel_rfl) (by simp) ?_
      refine AllReadyZ.consL rfl (fun K hK => ?_) ?_
      · refine step_append_own0 (by rfl) (.tmp 53) (.tmp 55) 23 (by rfl) 3 n0 (.int .i64 0) 1 8 Tryz.underlying23 ni nz0 nz1 nz2 rfl (by decide) V.heap.size _ (by rfl) (by first | exact Nat.le_refl _ | omega | (simp; done) | (simp; omega)) (by repeat (first | ((with_reducible refine new_at _ _ _ ?_); (first | with_reducible rfl | (simp; done))) | with_reducible refine blk_drew ?_ | with_reducible refine blk_alloc ?_ _)) alg y.lgn clg (intList y.lg y.lgn) (by rfl) HSL.out.2.2 (by rw [intList_length, Nat.mul_one]) (ints_cellsO (HLV.out _ (by repeat (first | exact Below.refl _ _ | refine Below.drew ?_ | refine push ?_ _)))) (intList_one _ _) (by unfold maxLen; omega) (by omega) ?_; intro p1 q1 u1 hg1 hr1 hat1; clear hat1; have HB1 : Hid (Below V.heap.size V u1) := (by show Below _ _ _; refine after ?_ (grown_below hg1); exact (by repeat (first | exact Below.refl _ _ | refine Below.drew ?_ | refine push ?_ _))); refine hK.out _ _ (KS.out _ HB1.out) (fun hS => ?_)
        clear hK K
        simp only [Act.put, List.setIfInBounds_toArray, List.set_cons_zero, List.set_cons_succ]
        (refine wpAnyZ_takeL (i := 16) (v := ?_) rfl (by kernel_rfl) (fun _ _ _ h => h) (Or.inl ⟨by rfl, ?_⟩) (by assumption) ?_; rotate_left; (focus (intro w' hSw; (try dsimp only at hSw); go_simp; try with_reducible rfl)); simp only [Act.put, List.setIfInBounds_toArray, List.set_cons_zero, List.set_cons_succ])
        have hbx : u1.heap[V.heap.size]? = some (.cells #[.int .i64 0, .int .i64 0, .string ⟨#[]⟩, .slice none 0 0, .int .i64 0, .int .i64 0, .int .i64 0, .int .i64 0, .bool false, .int .i64 0, .int .i64 0, .int .i64 0, .int .i64 0] 131 (0, 0)) := blk_below (by repeat (first | ((with_reducible refine new_at _ _ _ ?_); (first | with_reducible rfl | (simp; done))) | with_reducible refine blk_drew ?_ | with_reducible refine blk_alloc ?_ _)) (grown_below hg1)
        have bx0 := blk_cell hbx 0 _ rfl
        have bf0 := blk_free hbx 0
        have bx1 := blk_cell hbx 1 _ rfl
        have bf1 := blk_free hbx 1
        have bx2 := blk_cell hbx 2 _ rfl
        have bf2 := blk_free hbx 2
        have bx3 := blk_cell hbx 3 _ rfl
        have bf3 := blk_free hbx 3
        have bx4 := blk_cell hbx 4 _ rfl
        have bf4 := blk_free hbx 4
        have bx5 := blk_cell hbx 5 _ rfl
        have bf5 := blk_free hbx 5
        have bx6 := blk_cell hbx 6 _ rfl
        have bf6 := blk_free hbx 6
        have bx7 := blk_cell hbx 7 _ rfl
        have bf7 := blk_free hbx 7
        have bx8 := blk_cell hbx 8 _ rfl
        have bf8 := blk_free hbx 8
        have bx9 := blk_cell hbx 9 _ rfl
        have bf9 := blk_free hbx 9
        have bx10 := blk_cell hbx 10 _ rfl
        have bf10 := blk_free hbx 10
        have bx11 := blk_cell hbx 11 _ rfl
        have bf11 := blk_free hbx 11
        have bx12 := blk_cell hbx 12 _ rfl
        have bf12 := blk_free hbx 12
        refine wpAnyZ_ready (rs := [18]) (by kernel_rfl) (by simp) ?_
        refine AllReadyZ.lastL rfl (fun K hK => ?_)
        go_simp
        refine hK.out _ _ ?_
        clear hK K
        refine wpAnyZ_done (by kernel_rfl) ?_ _
        have bBF := book_set hbx (.int .i64 ((R : Int) + 1)) (.int .i64 bys) (.string y.own) (.slice p1 y.lgn q1) (.int .i64 y.pe) (.int .i64 y.len) (.int .i64 y.hei) (.int .i64 y.cl) (.bool y.all) (.int .i64 y.be) (.int .i64 2) (.int .i64 0) (.int .i64 pr)
        have hbF := book_low HB1.out (b := V.heap.size) (by omega) (.int .i64 ((R : Int) + 1)) (.int .i64 bys) (.string y.own) (.slice p1 y.lgn q1) (.int .i64 y.pe) (.int .i64 y.len) (.int .i64 y.hei) (.int .i64 y.cl) (.bool y.all) (.int .i64 y.be) (.int .i64 2) (.int .i64 0) (.int .i64 pr)
        have HRF : Hid _ := (book_keep u1 (V.heap.size) (.int .i64 ((R : Int) + 1)) (.int .i64 bys) (.string y.own) (.slice p1 y.lgn q1) (.int .i64 y.pe) (.int .i64 y.len) (.int .i64 y.hei) (.int .i64 y.cl) (.bool y.all) (.int .i64 y.be) (.int .i64 2) (.int .i64 0) (.int .i64 pr)).own hr1 (own_notE hr1 hbx (by decide))
        clear hbx bx0 bf0 bx1 bf1 bx2 bf2 bx3 bf3 bx4 bf4 bx5 bf5 bx6 bf6 bx7 bf7 bx8 bf8 bx9 bf9 bx10 bf10 bx11 bf11 bx12 bf12
        generalize (((((((((((((u1.setCell ⟨V.heap.size, 0, none⟩ (.int .i64 ((R : Int) + 1))).setCell ⟨V.heap.size, 1, none⟩ (.int .i64 bys)).setCell ⟨V.heap.size, 2, none⟩ (.string y.own)).setCell ⟨V.heap.size, 3, none⟩ (.slice p1 y.lgn q1)).setCell ⟨V.heap.size, 4, none⟩ (.int .i64 y.pe)).setCell ⟨V.heap.size, 5, none⟩ (.int .i64 y.len)).setCell ⟨V.heap.size, 6, none⟩ (.int .i64 y.hei)).setCell ⟨V.heap.size, 7, none⟩ (.int .i64 y.cl)).setCell ⟨V.heap.size, 8, none⟩ (.bool y.all)).setCell ⟨V.heap.size, 9, none⟩ (.int .i64 y.be)).setCell ⟨V.heap.size, 10, none⟩ (.int .i64 2)).setCell ⟨V.heap.size, 11, none⟩ (.int .i64 0)).setCell ⟨V.heap.size, 12, none⟩ (.int .i64 pr)) = F at bBF hbF HRF ⊢
        obtain ⟨bb, hbb⟩ : ∃ bb, bb = V.heap.size := ⟨_, rfl⟩
        rw [← hbb] at bBF ⊢
        have hbbV : V.heap.size ≤ bb := by omega
        clear hbb
        clear hS hg1 hr1 HB1
        have hbw := after hb0 hbF
        have bOF := blk_below bO hbF
        have bAF := blk_below bA hbF
        have o0 := blk_cell bOF 0 _ rfl
        have hV1 : w.heap.size + 1 < V.heap.size := blk_lt bA
        have c10 := blk_cell bBF 10 _ rfl
        have c11 := blk_cell bBF 11 _ rfl
        have f10 := blk_free bBF 10
        have f11 := blk_free bBF 11
        go_upto_region 15 with fail
        have bB2 := bBF
        have hb2 := hbF
        have HR2 : Hid (F.ownsRow V.heap.size 3 1 (.slice p1 y.lgn q1) y.lgn (intList y.lg y.lgn)) := HRF.out
        generalize F = F2 at bB2 hb2 HR2 bBF hbF HRF hbw bOF bAF o0 c10 c11 f10 f11 ⊢
        clear c10 c11 f10 f11 o0
        clear bBF hbF HRF hbw bOF bAF
        have hbw := after hb0 hb2
        have bOF := blk_below bO hb2
        have bAF := blk_below bA hb2
        have qF := blk_below HQ.out hbw
        have hgw : g < w.heap.size := blk_lt HQ.out
        have KS2 : Hid (∀ z : World, z.heap[g]? = some (.cells #[.slice asa N csa, .slice ald N cld, .slice abk R cbk] 66 (0, 0)) → z.heap[bb]? = some (.cells #[.int .i64 ((R : Int) + 1), .int .i64 bys, .string y.own, .slice p1 y.lgn q1, .int .i64 y.pe, .int .i64 y.len, .int .i64 y.hei, .int .i64 y.cl, .bool y.all, .int .i64 y.be, .int .i64 2, .int .i64 0, .int .i64 pr] 131 (0, 0)) → z.cell? ⟨g, 2, none⟩ = some (.slice abk R cbk) ∧ z.cell? ⟨bb, 0, none⟩ = some (.int .i64 ((R : Int) + 1)) ∧ z.cell? ⟨bb, 1, none⟩ = some (.int .i64 bys) ∧ z.cell? ⟨bb, 2, none⟩ = some (.string y.own) ∧ z.cell? ⟨bb, 3, none⟩ = some (.slice p1 y.lgn q1) ∧ z.cell? ⟨bb, 4, none⟩ = some (.int .i64 y.pe) ∧ z.cell? ⟨bb, 5, none⟩ = some (.int .i64 y.len) ∧ z.cell? ⟨bb, 6, none⟩ = some (.int .i64 y.hei) ∧ z.cell? ⟨bb, 7, none⟩ = some (.int .i64 y.cl) ∧ z.cell? ⟨bb, 8, none⟩ = some (.bool y.all) ∧ z.cell? ⟨bb, 9, none⟩ = some (.int .i64 y.be) ∧ z.cell? ⟨bb, 10, none⟩ = some (.int .i64 2) ∧ z.cell? ⟨bb, 11, none⟩ = some (.int .i64 0) ∧ z.cell? ⟨bb, 12, none⟩ = some (.int .i64 pr)) := fun z h1 h2 => ⟨blk_cell h1 2 _ rfl, blk_cell h2 0 _ rfl, blk_cell h2 1 _ rfl, blk_cell h2 2 _ rfl, blk_cell h2 3 _ rfl, blk_cell h2 4 _ rfl, blk_cell h2 5 _ rfl, blk_cell h2 6 _ rfl, blk_cell h2 7 _ rfl, blk_cell h2 8 _ rfl, blk_cell h2 9 _ rfl, blk_cell h2 10 _ rfl, blk_cell h2 11 _ rfl, blk_cell h2 12 _ rfl⟩
        refine wp_region_z 10 11 (fun w' => w'.cell? ⟨g, 2, none⟩ = some (.slice abk R cbk) ∧ w'.cell? ⟨bb, 0, none⟩ = some (.int .i64 ((R : Int) + 1)) ∧ w'.cell? ⟨bb, 1, none⟩ = some (.int .i64 bys) ∧ w'.cell? ⟨bb, 2, none⟩ = some (.string y.own) ∧ w'.cell? ⟨bb, 3, none⟩ = some (.slice p1 y.lgn q1) ∧ w'.cell? ⟨bb, 4, none⟩ = some (.int .i64 y.pe) ∧ w'.cell? ⟨bb, 5, none⟩ = some (.int .i64 y.len) ∧ w'.cell? ⟨bb, 6, none⟩ = some (.int .i64 y.hei) ∧ w'.cell? ⟨bb, 7, none⟩ = some (.int .i64 y.cl) ∧ w'.cell? ⟨bb, 8, none⟩ = some (.bool y.all) ∧ w'.cell? ⟨bb, 9, none⟩ = some (.int .i64 y.be) ∧ w'.cell? ⟨bb, 10, none⟩ = some (.int .i64 2) ∧ w'.cell? ⟨bb, 11, none⟩ = some (.int .i64 0) ∧ w'.cell? ⟨bb, 12, none⟩ = some (.int .i64 pr)) rfl (by kernel_rfl) (KS2.out _ qF bB2) (fun hS => ?_)
        simp only [List.replicate_succ, List.replicate_zero]
        (refine wpAnyZ_takeL (i := 0) (v := ?_) rfl (by kernel_rfl) (fun _ _ _ h => h) (Or.inl ⟨by rfl, ?_⟩) (by assumption) ?_; rotate_left; (focus (intro w' hSw; (try dsimp only at hSw); go_simp; try with_reducible rfl)); simp only [Act.put, List.setIfInBounds_toArray, List.set_cons_zero, List.set_cons_succ])
        (refine wpAnyZ_takeL (i := 1) (v := ?_) rfl (by kernel_rfl) (fun _ _ _ h => h) (Or.inl ⟨by rfl, ?_⟩) (by assumption) ?_; rotate_left; (focus (intro w' hSw; (try dsimp only at hSw); go_simp; try with_reducible rfl)); simp only [Act.put, List.setIfInBounds_toArray, List.set_cons_zero, List.set_cons_succ])
        (refine wpAnyZ_takeL (i := 2) (v := ?_) rfl (by kernel_rfl) (fun _ _ _ h => h) (Or.inl ⟨by rfl, ?_⟩) (by assumption) ?_; rotate_left; (focus (intro w' hSw; (try dsimp only at hSw); go_simp; try with_reducible rfl)); simp only [Act.put, List.setIfInBounds_toArray, List.set_cons_zero, List.set_cons_succ])
        (refine wpAnyZ_takeL (i := 3) (v := ?_) rfl (by kernel_rfl) (fun _ _ _ h => h) (Or.inl ⟨by rfl, ?_⟩) (by assumption) ?_; rotate_left; (focus (intro w' hSw; (try dsimp only at hSw); go_simp; try with_reducible rfl)); simp only [Act.put, List.setIfInBounds_toArray, List.set_cons_zero, List.set_cons_succ])
        (refine wpAnyZ_takeL (i := 4) (v := ?_) rfl (by kernel_rfl) (fun _ _ _ h => h) (Or.inl ⟨by rfl, ?_⟩) (by assumption) ?_; rotate_left; (focus (intro w' hSw; (try dsimp only at hSw); go_simp; try with_reducible rfl)); simp only [Act.put, List.setIfInBounds_toArray, List.set_cons_zero, List.set_cons_succ])
        (refine wpAnyZ_takeL (i := 5) (v := ?_) rfl (by kernel_rfl) (fun _ _ _ h => h) (Or.inl ⟨by rfl, ?_⟩) (by assumption) ?_; rotate_left; (focus (intro w' hSw; (try dsimp only at hSw); go_simp; try with_reducible rfl)); simp only [Act.put, List.setIfInBounds_toArray, List.set_cons_zero, List.set_cons_succ])
        refine wpAnyZ_ready (rs := [6]) (by kernel_rfl) (by simp) ?_
        refine AllReadyZ.consL rfl (fun K hK => ?_) AllReadyZ.nil
        refine step_buildSlice (by rfl) 64 131 1 #[(0, .tmp 73)] (by rfl) Tryz.underlying64 #[.int .i64 ((R : Int) + 1), .int .i64 bys, .string y.own, .slice p1 y.lgn q1, .int .i64 y.pe, .int .i64 y.len, .int .i64 y.hei, .int .i64 y.cl, .bool y.all, .int .i64 y.be, .int .i64 2, .int .i64 0, .int .i64 pr] (Eq.trans (congrArg (Program.builtSlice Tryz.prog 131 1) (show _ = [(0, Value.agg #[.int .i64 ((R : Int) + 1), .int .i64 bys, .string y.own, .slice p1 y.lgn q1, .int .i64 y.pe, .int .i64 y.len, .int .i64 y.hei, .int .i64 y.cl, .bool y.all, .int .i64 y.be, .int .i64 2, .int .i64 0, .int .i64 pr])] from by first | (simp [go_sem]; done) | rfl | kernel_rfl)) (builtBook ((R : Int) + 1) bys y.pe y.len y.hei y.cl y.be 2 0 pr y.own y.all p1 y.lgn q1)) ?_
        refine hK.out _ _ (KS2.out _ (blk_alloc qF _) (blk_alloc bB2 _)) (fun hS => ?_)
        clear hK K
        simp only [Act.put, List.setIfInBounds_toArray, List.set_cons_zero, List.set_cons_succ]
        have hszF : F2.drew.heap.size = F2.heap.size := rfl
        refine wpAnyZ_ready (rs := [7]) (by kernel_rfl) (by simp) ?_
        refine AllReadyZ.consL rfl (fun K hK => ?_) AllReadyZ.nil
        have HEa : Hid (OwnOff (F2.drew.alloc (.cells #[.int .i64 ((R : Int) + 1), .int .i64 bys, .string y.own, .slice p1 y.lgn q1, .int .i64 y.pe, .int .i64 y.len, .int .i64 y.hei, .int .i64 y.cl, .bool y.all, .int .i64 y.be, .int .i64 2, .int .i64 0, .int .i64 pr] 131)) base (.slice asa N csa) (.slice ald N cld) (.slice abk R cbk) N N R x L C A B D E) := HO.out.below (push (Below.drew hbw) _)
        refine step_append_lies _ (by rfl) (.tmp 72) (.tmp 74) 64 (by rfl) base 131 r0 (.agg #[.int .i64 0, .int .i64 0, .string ⟨#[]⟩, .slice none 0 0, .int .i64 0, .int .i64 0, .int .i64 0, .int .i64 0, .bool false, .int .i64 0, .int .i64 0, .int .i64 0, .int .i64 0]) 13 128 Tryz.underlying64 ri rz0 rz1 rz2 rfl (by decide) _ R (bkRow x.bk E R) (by rfl) HEa.out.bk.row _ 1 1 [.int .i64 ((R : Int) + 1), .int .i64 bys, .string y.own, .slice p1 y.lgn q1, .int .i64 y.pe, .int .i64 y.len, .int .i64 y.hei, .int .i64 y.cl, .bool y.all, .int .i64 y.be, .int .i64 2, .int .i64 0, .int .i64 pr] (by rfl) (by rfl) (World.news_of_block (cs := #[.int .i64 ((R : Int) + 1), .int .i64 bys, .string y.own, .slice p1 y.lgn q1, .int .i64 y.pe, .int .i64 y.len, .int .i64 y.hei, .int .i64 y.cl, .bool y.all, .int .i64 y.be, .int .i64 2, .int .i64 0, .int .i64 pr]) (t := 131) (fr := (0, 0)) (heap_alloc_new F2.drew _)) (by intro u hu; simp at hu; rcases hu with rfl | rfl | rfl | rfl | rfl | rfl | rfl | rfl | rfl | rfl | rfl | rfl | rfl <;> rfl) (by decide) (by unfold maxLen; omega) (by omega) (by have := HBW.out; have := hbw.size; simp; omega) _ rfl ?_
        intro g2 cap2 u2 ho2 hg2 hat2 hlt2
        have qU := (kept_row hg2).blk (blk_alloc (blk_drew qF) (.cells #[.int .i64 ((R : Int) + 1), .int .i64 bys, .string y.own, .slice p1 y.lgn q1, .int .i64 y.pe, .int .i64 y.len, .int .i64 y.hei, .int .i64 y.cl, .bool y.all, .int .i64 y.be, .int .i64 2, .int .i64 0, .int .i64 pr] 131)) (fun e => by obtain ⟨cs, e2⟩ := own_blockE HEa.out.bk.row g e; rw [blk_alloc (blk_drew qF) (.cells #[.int .i64 ((R : Int) + 1), .int .i64 bys, .string y.own, .slice p1 y.lgn q1, .int .i64 y.pe, .int .i64 y.len, .int .i64 y.hei, .int .i64 y.cl, .bool y.all, .int .i64 y.be, .int .i64 2, .int .i64 0, .int .i64 pr] 131)] at e2; simp at e2)
        have bU := (kept_row hg2).blk (blk_alloc (blk_drew bB2) (.cells #[.int .i64 ((R : Int) + 1), .int .i64 bys, .string y.own, .slice p1 y.lgn q1, .int .i64 y.pe, .int .i64 y.len, .int .i64 y.hei, .int .i64 y.cl, .bool y.all, .int .i64 y.be, .int .i64 2, .int .i64 0, .int .i64 pr] 131)) (fun e => by have h1 := (HO.out.bk.row.lt bb e).2; have := hb0.size; omega)
        have aU := (kept_row hg2).blk (blk_alloc (blk_drew bAF) (.cells #[.int .i64 ((R : Int) + 1), .int .i64 bys, .string y.own, .slice p1 y.lgn q1, .int .i64 y.pe, .int .i64 y.len, .int .i64 y.hei, .int .i64 y.cl, .bool y.all, .int .i64 y.be, .int .i64 2, .int .i64 0, .int .i64 pr] 131)) (fun e => by have h1 := (HO.out.bk.row.lt _ e).2; omega)
        refine hK.out _ _ (KS2.out _ qU bU) (fun hS => ?_)
        clear hK K
        simp only [Act.put, List.setIfInBounds_toArray, List.set_cons_zero, List.set_cons_succ]
        (refine wpAnyZ_takeL (i := 8) (v := ?_) rfl (by kernel_rfl) (fun _ _ _ h => h) (Or.inl ⟨by rfl, ?_⟩) (by assumption) ?_; rotate_left; (focus (intro w' hSw; (try dsimp only at hSw); go_simp; try with_reducible rfl)); simp only [Act.put, List.setIfInBounds_toArray, List.set_cons_zero, List.set_cons_succ])
        (refine wpAnyZ_takeL (i := 9) (v := ?_) rfl (by kernel_rfl) (fun _ _ _ h => h) (Or.inl ⟨by rfl, ?_⟩) (by assumption) ?_; rotate_left; (focus (intro w' hSw; (try dsimp only at hSw); go_simp; try with_reducible rfl)); simp only [Act.put, List.setIfInBounds_toArray, List.set_cons_zero, List.set_cons_succ])
        have q0 := blk_cell qU 2 _ rfl
        have q1' := blk_free qU 2
        refine wpAnyZ_ready (rs := [10]) (by kernel_rfl) (by simp) ?_
        refine AllReadyZ.lastL rfl (fun K hK => ?_)
        go_simp
        refine hK.out _ _ ?_
        clear hK K
        refine wpAnyZ_done (by kernel_rfl) ?_ _
        have qG := off_at2 qU (.slice (some ⟨g2, 0, none⟩) (R + 1) cap2)
        have bG := blk_set_other (b' := g) bU 2 (.slice (some ⟨g2, 0, none⟩) (R + 1) cap2) (by omega)
        have aG := blk_set_other (b' := g) aU 2 (.slice (some ⟨g2, 0, none⟩) (R + 1) cap2) (by omega)
        have HNB : Hid (newBook R bys y = ⟨(R : Int) + 1, bys, y.own, y.lgn, y.lg, y.pe, y.len, y.hei, y.cl, y.all, y.be, 2, 0, pr⟩) := by show _ = _; unfold newBook; rw [HKD.out, ← HPR.out]; rfl
        have HOx : Hid (OwnOff (F2.drew.alloc (.cells #[.int .i64 ((R : Int) + 1), .int .i64 bys, .string y.own, .slice p1 y.lgn q1, .int .i64 y.pe, .int .i64 y.len, .int .i64 y.hei, .int .i64 y.cl, .bool y.all, .int .i64 y.be, .int .i64 2, .int .i64 0, .int .i64 pr] 131)) base (.slice asa N csa) (.slice ald N cld) (.slice abk R cbk) N N R { x with bkn := R + 1, bk := setB x.bk R (newBook R bys y) } L C A B D E) := ⟨HEa.out.sa, HEa.out.ld, HEa.out.bk.congr (fun i hi => (setB_ne _ _ _ (by omega)).symm)⟩
        have HOb : Hid (OwnOff u2 base (.slice asa N csa) (.slice ald N cld) (.slice (some ⟨g2, 0, none⟩) (R + 1) cap2) N N (R + 1) { x with bkn := R + 1, bk := setB x.bk R (newBook R bys y) } L C A B D (atV E R (.slice p1 y.lgn q1))) := by
          refine HOx.out.book (lim := V.heap.size) (fun i hi b e => by have h1 := ((HO.out.bk.legs i hi).lt b e).2; have := hb0.size; omega) ?_ (Nat.le_trans HBW.out hb0.size) hg2 ?_
          · dsimp only
            rw [setB_at, HNB.out]
            exact own_below (push (Below.drew (Below.refl _ _)) _) HR2.out
          · have e1 : bkRow (setB x.bk R (newBook R bys y)) E R = bkRow x.bk E R := List.map_congr_left fun j hj => by
              have hj' : j < R * 13 := by simpa using hj
              unfold recCell bkC
              rw [setB_ne _ _ _ (by omega)]
            dsimp only
            rw [e1]
            unfold bkC
            rw [setB_at, atV_at, HNB.out]
            exact ho2
        have hkg : Kept u2 (u2.setCell ⟨g, 2, none⟩ (.slice (some ⟨g2, 0, none⟩) (R + 1) cap2)) (fun b => b = g) := (Kept.refl u2 (fun b => b = g)).set (a := ⟨g, 2, none⟩) rfl _
        have HOc : Hid _ := HOb.out.box hkg qU (by decide)
        have HKw : Hid (Kept w (u2.setCell ⟨g, 2, none⟩ (.slice (some ⟨g2, 0, none⟩) (R + 1) cap2)) (fun b => b = g ∨ (Value.slice abk R cbk).ownBlock = some b)) := ((Kept.of_below (push (Below.drew hbw) _)).trans ((kept_row hg2).mono (fun b e => .inr e))).trans (hkg.mono (fun b e => .inl e))
        have c0 := blk_cell bG 0 _ rfl
        generalize u2.setCell ⟨g, 2, none⟩ (.slice (some ⟨g2, 0, none⟩) (R + 1) cap2) = Z1 at qG bG aG hkg HOc HKw c0 ⊢
        obtain ⟨HOF, hQF, HKF, bF⟩ := end_fin HKw.out HOc.out qG aG (by omega) (.int .i64 0) (.int .i64 ((R : Int) + 1)) (.int .i64 pr) (.slice none 0 0) rfl
        have v0 := blk_cell aG 0 _ rfl
        have e0 := blk_free aG 0
        have v1 := blk_cell aG 1 _ rfl
        have e1 := blk_free aG 1
        have v2 := blk_cell aG 2 _ rfl
        have e2 := blk_free aG 2
        have v3 := blk_cell aG 3 _ rfl
        have e3 := blk_free aG 3
        have HEND : Hid _ := HOF
        have HEQ : Hid _ := hQF
        have HEK : Hid _ := HKF
        clear HOF hQF HKF
        clear q0 q1' hS hkg ho2
        go_wp2
        have x0 := blk_cell bF 0 _ rfl
        have x1 := blk_cell bF 1 _ rfl
        have x2 := blk_cell bF 2 _ rfl
        have x3 := blk_cell bF 3 _ rfl
        refine bodyPost_ret (v := .agg #[.int .i64 0, .int .i64 ((R : Int) + 1), .int .i64 pr, .slice none 0 0]) (by simp [results, Tryz.results123, go_sem, x0, x1, x2, x3]) rfl ?_
        rw [HPR.out] at HEND HEQ HEK ⊢
        exact ⟨_, _, _, _, rfl, rfl, HEND.out, HEQ.out, HEK.out⟩
      exact AllReadyZ.nil
    exact AllReadyZ.nil
  exact AllReadyZ.nil

end Go.Proofs.YtfallpinmhbemaaGreatDoor
