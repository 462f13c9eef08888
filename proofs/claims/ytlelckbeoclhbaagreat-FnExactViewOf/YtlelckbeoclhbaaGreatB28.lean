/-
  OWN TEXT: InfoMRow, RowsI, SightI, KitSee.
-/
import Derived.Test.YtlelckbeoclhbaaGreatRows
import Derived.Deep.RegionHeld3
import Derived.Shelf.Abstract
import Derived.WalkKit
import Derived.OwnWalkIn
import Derived.TacticsInMore
import Derived.LoopNIn
import Derived.LoopIn
import Derived.Deep.DeepCutAuto
import Derived.Test.YtlelckbeoclhbaaGreatB02
import Derived.Test.YtlelckbeoclhbaaGreatB23
import Derived.Test.YtlelckbeoclhbaaGreatB22
import Derived.Test.YtlelckbeoclhbaaGreatB12
import Derived.Test.YtlelckbeoclhbaaGreatB27
set_option maxHeartbeats 12800000
set_option maxRecDepth 100000
namespace Go.Proofs.YtlelckbeoclhbaaGreat
open Go.RowKit
theorem Tryz.infoRow : (Tryz.prog.info? 116).map (fun i => (i.zero, i.size, i.bytes)) = some (some (.agg #[.int .i64 0, .string ⟨#[]⟩, .int .i64 0, .int .i64 0, .int .i64 0]), 5, 48) := by kernel_rfl
end Go.Proofs.YtlelckbeoclhbaaGreat

namespace Go.Proofs.YtlelckbeoclhbaaGreat
open Go.RowKit Classical
theorem lastLn_no {S : Nat → Stay} {q : Int} {n : Nat} (h : ∀ j, j < n → (S j).who ≠ q) : lastLn S q n = -1 := by
  induction n with
  | zero => rfl
  | succ n ih => rw [lastLn, if_neg (h n (by omega)), ih (fun j hj => h j (by omega))]
theorem lastLn_is {S : Nat → Stay} {q : Int} {n i : Nat} (hi : i < n) (he : (S i).who = q) (h : ∀ j, j < n → (S j).who = q → j = i) : lastLn S q n = (S i).ln := by
  induction n with
  | zero => omega
  | succ n ih =>
    by_cases c : (S n).who = q
    · rw [lastLn, if_pos c, h n (by omega) c]
    · rw [lastLn, if_neg c]
      exact ih (by have : i ≠ n := fun e => c (e ▸ he); omega) (fun j hj => h j (by omega))
theorem lastCab_no {S : Nat → Room} {q : Int} {n : Nat} (h : ∀ j, j < n → (S j).who ≠ q) : lastCab S q n = -1 := by
  induction n with
  | zero => rfl
  | succ n ih => rw [lastCab, if_neg (h n (by omega)), ih (fun j hj => h j (by omega))]
theorem lastCab_is {S : Nat → Room} {q : Int} {n i : Nat} (hi : i < n) (he : (S i).who = q) (h : ∀ j, j < n → (S j).who = q → j = i) : lastCab S q n = (S i).cab := by
  induction n with
  | zero => omega
  | succ n ih =>
    by_cases c : (S n).who = q
    · rw [lastCab, if_pos c, h n (by omega) c]
    · rw [lastCab, if_neg c]
      exact ih (by have : i ≠ n := fun e => c (e ▸ he); omega) (fun j hj => h j (by omega))
theorem lane_ix {s : Sail} {l : Load} (h : LoadOk s l) (q : Int) : lastLn l.st q l.stn = if ixOf (whoS l.st) q l.stn < l.stn then (l.st (ixOf (whoS l.st) q l.stn)).ln else -1 := by
  have u1 : ∀ i, i < l.stn → ¬ Has (whoS l.st) i (whoS l.st i) := fun i hi => (h.1.2.2.1 i hi).2.2.2.2
  by_cases c : ixOf (whoS l.st) q l.stn < l.stn
  · rw [if_pos c]; exact lastLn_is c (ixOf_at (whoS l.st) q _ c) (fun j hj e => (ixOf_one u1 hj e).symm)
  · rw [if_neg c]; exact lastLn_no (fun j hj e => c ((has_iff (whoS l.st) _ _).1 ⟨j, hj, e⟩))
theorem cab_ix {s : Sail} {l : Load} (h : LoadOk s l) (q : Int) : lastCab l.ro q l.ron = if ixOf (whoR l.ro) q l.ron < l.ron then (l.ro (ixOf (whoR l.ro) q l.ron)).cab else -1 := by
  have u1 : ∀ i, i < l.ron → ¬ Has (whoR l.ro) i (whoR l.ro i) := fun i hi => (h.2.1.2.2.1 i hi).1.2.1
  by_cases c : ixOf (whoR l.ro) q l.ron < l.ron
  · rw [if_pos c]; exact lastCab_is c (ixOf_at (whoR l.ro) q _ c) (fun j hj e => (ixOf_one u1 hj e).symm)
  · rw [if_neg c]; exact lastCab_no (fun j hj e => c ((has_iff (whoR l.ro) _ _).1 ⟨j, hj, e⟩))
theorem rowsL_on (l : Load) (S : Nat → Book) (z : Int) (n : Nat) : (rowsL l S z n).length = (onL (fun i => OnB (S i) z) n).length ∧ ∀ j, j < (onL (fun i => OnB (S i) z) n).length → nthR (rowsL l S z n) j = rowOf l (S (onI (fun i => OnB (S i) z) n j)) := by
  induction n with
  | zero => exact ⟨rfl, fun j hj => by simp [onL] at hj⟩
  | succ n ih =>
    obtain ⟨e1, e2⟩ := ih
    by_cases h : OnB (S n) z
    · have hq : OnZ (S n) z := h
      rw [rowsL_yes hq, onL_yes (P := fun i => OnB (S i) z) h, List.length_append, List.length_append, e1]
      refine ⟨rfl, fun j hj => ?_⟩
      by_cases e : j = (onL (fun i => OnB (S i) z) n).length
      · subst e
        rw [onI_last (fun i => OnB (S i) z) h]
        unfold nthR
        rw [← e1]; simp
      · have hj2 : j < (onL (fun i => OnB (S i) z) n).length := by simp at hj; omega
        rw [onI_old _ hj2, ← e2 j hj2]
        unfold nthR
        rw [List.getD_eq_getElem?_getD, List.getD_eq_getElem?_getD, List.getElem?_append_left (by omega)]
    · have hq : ¬ OnZ (S n) z := h
      rw [rowsL_no hq, onL_no (P := fun i => OnB (S i) z) h]
      exact ⟨e1, fun j hj => by rw [onI_old _ hj, ← e2 j hj]⟩
theorem rowLn_set {w : World} {g t : Nat} {u0 u1 u2 u3 u4 : Value} (h : w.heap[g]? = some (.cells #[u0, u1, u2, u3, u4] t (0, 0))) (v : Value) : (w.setCell ⟨g, 3, none⟩ v).heap[g]? = some (.cells #[u0, u1, u2, v, u4] t (0, 0)) := by simpa using blk_set h 3 v
theorem rowCab_set {w : World} {g t : Nat} {u0 u1 u2 u3 u4 : Value} (h : w.heap[g]? = some (.cells #[u0, u1, u2, u3, u4] t (0, 0))) (v : Value) : (w.setCell ⟨g, 4, none⟩ v).heap[g]? = some (.cells #[u0, u1, u2, u3, v] t (0, 0)) := by simpa using blk_set h 4 v
theorem rowsOf_raw (x : Off) (asa ald abk : Option Addr) (csa cld cbk k : Nat) (w : World) (hs : Off.Short x 1048576) (hsa : SailsAt w asa x.san x.sa) (hld : LoadsAt w ald x.ldn x.ld) (hbk : BooksAt w abk x.bkn x.bk) (hcb : x.bkn ≤ 30) (hlt : k < x.san) (hm1 : x.ldn = x.san) (hok : LoadOk (x.sa k) (x.ld k)) :
    Calls Tryz.prog 69 #[.agg #[.slice asa x.san csa, .slice ald x.ldn cld, .slice abk x.bkn cbk], .int .i64 k] w fun e w' => (∃ v, e = .returned v ∧ w'.ownsRow w.heap.size 116 5 v (rowsL (x.ld k) x.bk (x.sa k).id x.bkn).length (rowList (nthR (rowsL (x.ld k) x.bk (x.sa k).id x.bkn)) (rowsL (x.ld k) x.bk (x.sa k).id x.bkn).length)) ∧ Below w.heap.size w w' := by
  obtain ⟨j0, ji, jz0, jz1, jz2⟩ := info_parts Tryz.infoRow
  have HSH : Hid (Off.Short x 1048576) := hs
  obtain ⟨sb, so, _, _, _, _, rfl, f0, _⟩ := hsa k hlt
  obtain ⟨zi, hzi⟩ : ∃ z, z = (x.sa k).id := ⟨_, rfl⟩
  rw [← hzi] at f0 ⊢
  have lsb : sb < w.heap.size := World.block_lt_of_cell? w _ f0
  obtain ⟨D, hD, hJ⟩ := hld
  obtain ⟨lb, lo, rfl, hc⟩ := hD k (by omega)
  obtain ⟨l, hld⟩ : ∃ l, l = x.ld k := ⟨_, rfl⟩
  obtain ⟨ast, cst, aro, cro, ase, cse, eC, hst, sst, hro, sro, hse, sse⟩ := hJ k (by omega)
  have hlh := hs.2.1.2 k (by omega)
  rw [← hld] at eC hst sst hro sro hse sse hlh hok ⊢
  have n2 : l.stn ≤ 1048576 := hlh.1
  have n3 : l.ron ≤ 1048576 := hlh.2.1
  have llb : lb < w.heap.size := World.block_lt_of_cell? w _ (hc 0 (by decide))
  have HST : Hid (StaysAt w ast l.stn l.st) := hst
  have HRO : Hid (RoomsAt w aro l.ron l.ro) := hro
  have HOK : Hid (LoadOk (x.sa k) l) := hok
  obtain ⟨C, hC, hI⟩ := hbk
  have HC : Hid (RecsAt w abk x.bkn 13 C) := hC
  have HI : Hid (∀ k, k < x.bkn → Book.Is w (C k) (x.bk k)) := hI
  have HF0 : Hid (w.cell? ⟨sb, so + k * 8, none⟩ = some (.int .i64 zi)) := f0
  have d0 : ∀ o, (w.alloc o).cell? ⟨lb, lo + k * 3, none⟩ = some (.slice ast l.stn cst) := fun o => ((push (Below.refl _ w) o).cell (p := ⟨lb, lo + k * 3, none⟩) llb).trans (by have := hc 0 (by decide); rw [eC] at this; exact this)
  have d1 : ∀ o, (w.alloc o).cell? ⟨lb, lo + k * 3 + 1, none⟩ = some (.slice aro l.ron cro) := fun o => ((push (Below.refl _ w) o).cell (p := ⟨lb, lo + k * 3 + 1, none⟩) llb).trans (by have := hc 1 (by decide); rw [eC] at this; exact this)
  have d2 : ∀ o, (w.alloc o).cell? ⟨lb, lo + k * 3 + 2, none⟩ = some (.slice ase l.sen cse) := fun o => ((push (Below.refl _ w) o).cell (p := ⟨lb, lo + k * 3 + 2, none⟩) llb).trans (by have := hc 2 (by decide); rw [eC] at this; exact this)
  obtain ⟨P, hP⟩ : ∃ P : Nat → Prop, P = fun i => OnB (x.bk i) zi := ⟨_, rfl⟩
  obtain ⟨m, hmd⟩ : ∃ m, m = (onL P x.bkn).length := ⟨_, rfl⟩
  have hm30 : m ≤ 30 := by rw [hmd]; exact Nat.le_trans (onL_le P _) hcb
  have HMD : Hid (m = (onL P x.bkn).length) := hmd
  have HRES : Hid ((rowsL l x.bk zi x.bkn).length = m ∧ ∀ j, j < m → nthR (rowsL l x.bk zi x.bkn) j = rowOf l (x.bk (onI P x.bkn j))) := by
    show (rowsL l x.bk zi x.bkn).length = m ∧ ∀ j, j < m → nthR (rowsL l x.bk zi x.bkn) j = rowOf l (x.bk (onI P x.bkn j))
    rw [hmd, hP]; exact rowsL_on l x.bk zi x.bkn
  obtain ⟨B, hBd⟩ : ∃ B : Nat → Book, B = fun j => x.bk (onI P x.bkn j) := ⟨_, rfl⟩
  obtain ⟨C', hCd⟩ : ∃ C' : Nat → List Value, C' = fun j => C (onI P x.bkn j) := ⟨_, rfl⟩
  have HI2 : Hid (∀ j, j < m → Book.Is w (C' j) (B j)) := fun j hj => by
    rw [hCd, hBd]
    exact HI.out _ (onI_is P x.bkn j (by rw [← HMD.out]; exact hj)).1
  have HR2 : Hid (∀ j, j < m → nthR (rowsL l x.bk zi x.bkn) j = rowOf l (B j)) := fun j hj => by rw [hBd]; exact HRES.out.2 j hj
  have HC1 : Hid (∀ w', Below w.heap.size w w' → Calls Tryz.prog 65 #[.slice abk x.bkn cbk, .int .i64 zi] w' fun e w2 => (∃ ao c, e = .returned (.slice ao m c) ∧ RecsAt w2 ao m 13 C') ∧ Below w'.heap.size w' w2) := fun w' h =>
    (bookingsOn_any abk x.bkn cbk x.bk C zi w' HSH.out.2.2.1 HSH.out.2.2.2 (HC.out.below h) (fun j hj => (HI.out j hj).below h)).mono fun _ _ ⟨⟨ao, c, a, _, b⟩, d⟩ => by
      rw [HMD.out, hCd, hP]
      exact ⟨⟨ao, c, a, RecsAt.of_own b⟩, d⟩
  have k0 : (0 : Int) ≤ (k : Int) := by omega
  have k1 : (k : Int) < (x.ldn : Int) := by omega
  have k2 : (k : Int) < (x.san : Int) := by omega
  clear hm1 hsa hD hJ hc eC hst sst hro sro hse sse hlh hC hI f0 hmd hBd hCd hP hs hok hzi hld HC HI HMD
  have hbV : Below w.heap.size w ((w.alloc (.cells #[.slice (some ⟨sb, so, none⟩) x.san csa, .slice (some ⟨lb, lo, none⟩) x.ldn cld, .slice abk x.bkn cbk] 39)).alloc (.cells #[.slice ast l.stn cst, .slice aro l.ron cro, .slice ase l.sen cse] 62)) := push (push (Below.refl _ _) _) _
  have bO : ((w.alloc (.cells #[.slice (some ⟨sb, so, none⟩) x.san csa, .slice (some ⟨lb, lo, none⟩) x.ldn cld, .slice abk x.bkn cbk] 39)).alloc (.cells #[.slice ast l.stn cst, .slice aro l.ron cro, .slice ase l.sen cse] 62)).heap[w.heap.size]? = some (.cells #[.slice (some ⟨sb, so, none⟩) x.san csa, .slice (some ⟨lb, lo, none⟩) x.ldn cld, .slice abk x.bkn cbk] 39 (0, 0)) := blk_alloc (heap_alloc_new w _) _
  have bL : ((w.alloc (.cells #[.slice (some ⟨sb, so, none⟩) x.san csa, .slice (some ⟨lb, lo, none⟩) x.ldn cld, .slice abk x.bkn cbk] 39)).alloc (.cells #[.slice ast l.stn cst, .slice aro l.ron cro, .slice ase l.sen cse] 62)).heap[w.heap.size + 1]? = some (.cells #[.slice ast l.stn cst, .slice aro l.ron cro, .slice ase l.sen cse] 62 (0, 0)) := by simpa using heap_alloc_new (w.alloc _) _
  go_enter Tryz.func69, Tryz.ntmps69
  go_upto_region 3 with fail
  generalize (w.alloc (.cells #[.slice (some ⟨sb, so, none⟩) x.san csa, .slice (some ⟨lb, lo, none⟩) x.ldn cld, .slice abk x.bkn cbk] 39)).alloc (.cells #[.slice ast l.stn cst, .slice aro l.ron cro, .slice ase l.sen cse] 62) = X at hbV bO bL ⊢
  clear d0 d1 d2
  have BW : Hid (∀ w', Below X.heap.size X w' → Below w.heap.size w w') := fun w' h => after hbV h
  have KS : Hid (∀ w', Below X.heap.size X w' → (w'.cell? ⟨w.heap.size, 0, none⟩ = some (.slice (some ⟨sb, so, none⟩) x.san csa) ∧ w'.cell? ⟨w.heap.size, 2, none⟩ = some (.slice abk x.bkn cbk) ∧ w'.cell? ⟨sb, so + k * 8, none⟩ = some (.int .i64 zi))) := fun w' h => by
    have g2 := blk_below bO h
    exact ⟨blk_cell g2 0 _ rfl, blk_cell g2 2 _ rfl, ((after hbV h).cell (p := ⟨sb, so + k * 8, none⟩) lsb).trans HF0.out⟩
  go_cut [25, 26, 27] (fun v nn i wx => ∃ ao c, v = .slice ao m c ∧ nn = .int .i64 m ∧ i = .int .i64 0 ∧ RecsAt wx ao m 13 C' ∧ Below X.heap.size X wx)
  case first =>
    go_region_held3 (fun w' => w'.cell? ⟨w.heap.size, 0, none⟩ = some (.slice (some ⟨sb, so, none⟩) x.san csa) ∧ w'.cell? ⟨w.heap.size, 2, none⟩ = some (.slice abk x.bkn cbk) ∧ w'.cell? ⟨sb, so + k * 8, none⟩ = some (.int .i64 zi))
      ((refine KS.out _ ?_; exact (by repeat (first | exact Below.refl _ _ | refine Below.drew ?_ | refine after ?_ hb4))))
      (first | (go_at_call 65; refine Calls.mono (HC1.out _ (BW.out _ (by repeat (first | exact Below.refl _ _ | refine Below.drew ?_ | refine after ?_ hb4)))) ?_; rintro e w4 ⟨⟨ao4, c4, rfl, ho4⟩, hb4⟩))
    all_goals
      go_wp2
      go_meet
      exact ⟨ao4, c4, rfl, rfl, rfl, RecsAt.below (w := w4) ho4 (by repeat (first | exact Below.refl _ _ | refine Below.drew ?_)), (by repeat (first | exact Below.refl _ _ | refine Below.drew ?_ | refine after ?_ hb4))⟩
  case rest =>
  obtain ⟨ao4, c4, rfl, rfl, rfl, hrec, hbc⟩ := hcut
  have HRC : Hid (RecsAt wc ao4 m 13 C') := hrec
  have hb1 := after hbV hbc
  have bL1 := blk_below bL hbc
  have HBL : Hid (wc.heap[w.heap.size + 1]? = some (.cells #[.slice ast l.stn cst, .slice aro l.ron cro, .slice ase l.sen cse] 62 (0, 0))) := bL1
  clear hrec bO bL hbV hbc KS BW HC1 HF0 bL1 k0 k1 k2
  obtain ⟨R, hR⟩ : ∃ R : Nat → MRow, R = fun j => rowOf l (B j) := ⟨_, rfl⟩
  have HR : Hid (∀ j, R j = rowOf l (B j)) := fun j => by rw [hR]
  clear hR
  go_wp2
  go_loopw [5, 8, 9, 10, 11, 27] (fun v _ _ _ _ q wr => ∃ i : Nat, i ≤ m ∧ q = .int .i64 i ∧ wr.ownsRow wc.heap.size 116 5 v i (rowList R i) ∧ Below wc.heap.size wc wr) (fun _ _ _ _ _ q _ => m - (intOf q).toNat)
  case atStart => exact ⟨0, Nat.zero_le _, rfl, ⟨rfl, .inl ⟨rfl, rfl⟩⟩, Below.refl _ _⟩
  case round =>
    obtain ⟨i, hi, rfl, hown, hbel⟩ := hrel
    have hbw := after hb1 hbel
    by_cases hlt2 : i < m
    · obtain ⟨bb, bo, rfl, hc⟩ := HRC.out i hlt2
      obtain ⟨b, hbd⟩ : ∃ b, b = B i := ⟨_, rfl⟩
      obtain ⟨alg, clg, eC, _, _⟩ := HI2.out i hlt2
      rw [← hbd] at eC
      have HBB : Hid (b = B i) := hbd
      have lbb : bb < wc.heap.size := World.block_lt_of_cell? wc _ (hc 0 (by decide))
      have c0 : wr.cell? ⟨bb, bo + i * 13, none⟩ = some (.int .i64 b.name) := (hbel.cell (p := ⟨bb, bo + i * 13, none⟩) lbb).trans (by have := hc 0 (by decide); rw [eC] at this; exact this)
      have c1 : wr.cell? ⟨bb, bo + i * 13 + 1, none⟩ = some (.int .i64 b.who) := (hbel.cell (p := ⟨bb, bo + i * 13 + 1, none⟩) lbb).trans (by have := hc 1 (by decide); rw [eC] at this; exact this)
      have c2 : wr.cell? ⟨bb, bo + i * 13 + 2, none⟩ = some (.string b.own) := (hbel.cell (p := ⟨bb, bo + i * 13 + 2, none⟩) lbb).trans (by have := hc 2 (by decide); rw [eC] at this; exact this)
      have c3 : wr.cell? ⟨bb, bo + i * 13 + 3, none⟩ = some (.slice alg b.lgn clg) := (hbel.cell (p := ⟨bb, bo + i * 13 + 3, none⟩) lbb).trans (by have := hc 3 (by decide); rw [eC] at this; exact this)
      have c4 : wr.cell? ⟨bb, bo + i * 13 + 4, none⟩ = some (.int .i64 b.pe) := (hbel.cell (p := ⟨bb, bo + i * 13 + 4, none⟩) lbb).trans (by have := hc 4 (by decide); rw [eC] at this; exact this)
      have c5 : wr.cell? ⟨bb, bo + i * 13 + 5, none⟩ = some (.int .i64 b.len) := (hbel.cell (p := ⟨bb, bo + i * 13 + 5, none⟩) lbb).trans (by have := hc 5 (by decide); rw [eC] at this; exact this)
      have c6 : wr.cell? ⟨bb, bo + i * 13 + 6, none⟩ = some (.int .i64 b.hei) := (hbel.cell (p := ⟨bb, bo + i * 13 + 6, none⟩) lbb).trans (by have := hc 6 (by decide); rw [eC] at this; exact this)
      have c7 : wr.cell? ⟨bb, bo + i * 13 + 7, none⟩ = some (.int .i64 b.cl) := (hbel.cell (p := ⟨bb, bo + i * 13 + 7, none⟩) lbb).trans (by have := hc 7 (by decide); rw [eC] at this; exact this)
      have c8 : wr.cell? ⟨bb, bo + i * 13 + 8, none⟩ = some (.bool b.all) := (hbel.cell (p := ⟨bb, bo + i * 13 + 8, none⟩) lbb).trans (by have := hc 8 (by decide); rw [eC] at this; exact this)
      have c9 : wr.cell? ⟨bb, bo + i * 13 + 9, none⟩ = some (.int .i64 b.be) := (hbel.cell (p := ⟨bb, bo + i * 13 + 9, none⟩) lbb).trans (by have := hc 9 (by decide); rw [eC] at this; exact this)
      have c10 : wr.cell? ⟨bb, bo + i * 13 + 10, none⟩ = some (.int .i64 b.state) := (hbel.cell (p := ⟨bb, bo + i * 13 + 10, none⟩) lbb).trans (by have := hc 10 (by decide); rw [eC] at this; exact this)
      have c11 : wr.cell? ⟨bb, bo + i * 13 + 11, none⟩ = some (.int .i64 b.unt) := (hbel.cell (p := ⟨bb, bo + i * 13 + 11, none⟩) lbb).trans (by have := hc 11 (by decide); rw [eC] at this; exact this)
      have c12 : wr.cell? ⟨bb, bo + i * 13 + 12, none⟩ = some (.int .i64 b.price) := (hbel.cell (p := ⟨bb, bo + i * 13 + 12, none⟩) lbb).trans (by have := hc 12 (by decide); rw [eC] at this; exact this)
      clear hc eC hbd
      have bB : ((wr.alloc (.cells #[.int .i64 b.name, .int .i64 b.who, .string b.own, .slice alg b.lgn clg, .int .i64 b.pe, .int .i64 b.len, .int .i64 b.hei, .int .i64 b.cl, .bool b.all, .int .i64 b.be, .int .i64 b.state, .int .i64 b.unt, .int .i64 b.price] 72)).alloc (.cells #[.int .i64 b.name, .string b.own, .int .i64 b.pe, .int .i64 (-1), .int .i64 (-1)] 116)).heap[wr.heap.size]? = some (.cells #[.int .i64 b.name, .int .i64 b.who, .string b.own, .slice alg b.lgn clg, .int .i64 b.pe, .int .i64 b.len, .int .i64 b.hei, .int .i64 b.cl, .bool b.all, .int .i64 b.be, .int .i64 b.state, .int .i64 b.unt, .int .i64 b.price] 72 (0, 0)) := blk_alloc (heap_alloc_new wr _) _
      have bR : ((wr.alloc (.cells #[.int .i64 b.name, .int .i64 b.who, .string b.own, .slice alg b.lgn clg, .int .i64 b.pe, .int .i64 b.len, .int .i64 b.hei, .int .i64 b.cl, .bool b.all, .int .i64 b.be, .int .i64 b.state, .int .i64 b.unt, .int .i64 b.price] 72)).alloc (.cells #[.int .i64 b.name, .string b.own, .int .i64 b.pe, .int .i64 (-1), .int .i64 (-1)] 116)).heap[wr.heap.size + 1]? = some (.cells #[.int .i64 b.name, .string b.own, .int .i64 b.pe, .int .i64 (-1), .int .i64 (-1)] 116 (0, 0)) := by simpa using heap_alloc_new (wr.alloc _) _
      have hbq : Below wc.heap.size wc ((wr.alloc (.cells #[.int .i64 b.name, .int .i64 b.who, .string b.own, .slice alg b.lgn clg, .int .i64 b.pe, .int .i64 b.len, .int .i64 b.hei, .int .i64 b.cl, .bool b.all, .int .i64 b.be, .int .i64 b.state, .int .i64 b.unt, .int .i64 b.price] 72)).alloc (.cells #[.int .i64 b.name, .string b.own, .int .i64 b.pe, .int .i64 (-1), .int .i64 (-1)] 116)) := push (push hbel _) _
      have hown1 := own_below (push (push (Below.refl _ wr) (.cells #[.int .i64 b.name, .int .i64 b.who, .string b.own, .slice alg b.lgn clg, .int .i64 b.pe, .int .i64 b.len, .int .i64 b.hei, .int .i64 b.cl, .bool b.all, .int .i64 b.be, .int .i64 b.state, .int .i64 b.unt, .int .i64 b.price] 72)) (.cells #[.int .i64 b.name, .string b.own, .int .i64 b.pe, .int .i64 (-1), .int .i64 (-1)] 116)) hown
      have HVB : Hid (∀ g, u5.ownBlock = some g → g < wr.heap.size) := fun g hg => (hown.lt g hg).2
      have l0' : ((wr.alloc (.cells #[.int .i64 b.name, .int .i64 b.who, .string b.own, .slice alg b.lgn clg, .int .i64 b.pe, .int .i64 b.len, .int .i64 b.hei, .int .i64 b.cl, .bool b.all, .int .i64 b.be, .int .i64 b.state, .int .i64 b.unt, .int .i64 b.price] 72)).alloc (.cells #[.int .i64 b.name, .string b.own, .int .i64 b.pe, .int .i64 (-1), .int .i64 (-1)] 116)).cell? ⟨w.heap.size + 1, 0, none⟩ = some (.slice ast l.stn cst) := blk_cell (blk_below HBL.out hbq) 0 _ rfl
      have y1 := blk_cell bB 1 _ rfl
      have hwr : wc.heap.size ≤ wr.heap.size := hbel.size
      go_wp2_with fail
      generalize hrb : wr.heap.size = rb at bB bR HVB y1 hwr ⊢
      generalize (wr.alloc (.cells #[.int .i64 b.name, .int .i64 b.who, .string b.own, .slice alg b.lgn clg, .int .i64 b.pe, .int .i64 b.len, .int .i64 b.hei, .int .i64 b.cl, .bool b.all, .int .i64 b.be, .int .i64 b.state, .int .i64 b.unt, .int .i64 b.price] 72)).alloc (.cells #[.int .i64 b.name, .string b.own, .int .i64 b.pe, .int .i64 (-1), .int .i64 (-1)] 116) = R0 at bB bR hbq hown1 l0' y1 ⊢
      clear hrb c0 c1 c2 c3 c4 c5 c6 c7 c8 c9 c10 c11 c12 hbel hbw hown l0' y1
      refine (stayOf_any ast l.stn cst l.st b.who _ n2 (HST.out.below (after hb1 hbq))).mono ?_
      rintro e Y1 ⟨rfl, hby⟩
      have bB1 := blk_below bB hby
      have bR1 := blk_below bR hby
      have kp1 : Kept R0 Y1 (fun g => g = rb + 1) := Kept.of_below hby
      have hq1 := after hbq hby
      clear bB bR hby hbq
      have hsz : wc.heap.size < rb + 1 := by omega
      have HLN : Hid (lastLn l.st b.who l.stn = if ixOf (whoS l.st) b.who l.stn < l.stn then (l.st (ixOf (whoS l.st) b.who l.stn)).ln else -1) := lane_ix HOK.out b.who
      have HCN : Hid (lastCab l.ro b.who l.ron = if ixOf (whoR l.ro) b.who l.ron < l.ron then (l.ro (ixOf (whoR l.ro) b.who l.ron)).cab else -1) := cab_ix HOK.out b.who
      obtain ⟨ln, hln⟩ : ∃ x, x = lastLn l.st b.who l.stn := ⟨_, rfl⟩
      obtain ⟨cn, hcn⟩ : ∃ x, x = lastCab l.ro b.who l.ron := ⟨_, rfl⟩
      rw [← hln] at HLN
      rw [← hcn] at HCN
      have HRI : Hid (R i = ⟨b.name, b.own, b.pe, ln, cn⟩) := by show R i = _; rw [HR.out, ← HBB.out]; unfold rowOf; rw [hln, hcn]
      clear hln hcn
      have hne : ¬ (w.heap.size + 1 = rb + 1) := by have := blk_lt HBL.out; omega
      have hne2 : ¬ (rb = rb + 1) := by omega
      have hle : wc.heap.size ≤ rb + 1 := by omega
      by_cases hf1 : ixOf (whoS l.st) b.who l.stn < l.stn
      · skip
        rw [ixAns_pos hf1]
        have HV1 : Hid (ln = (l.st (ixOf (whoS l.st) b.who l.stn)).ln) := by have := HLN.out; rw [if_pos hf1] at this; exact this
        obtain ⟨q1, hq1'⟩ : ∃ q, q = ixOf (whoS l.st) b.who l.stn := ⟨_, rfl⟩
        rw [← hq1'] at hf1 HV1 ⊢
        clear hq1'
        obtain ⟨tb, to', rfl, g0, g1, _, _⟩ := HST.out q1 hf1
        have ltb := World.block_lt_of_cell? w _ g0
        have s1 : Y1.cell? ⟨tb, to' + q1 * 4 + 1, none⟩ = some (.int .i64 ln) := ((after hb1 hq1).cell (p := ⟨tb, to' + q1 * 4 + 1, none⟩) ltb).trans (by rw [HV1.out]; exact g1)
        have d0 : decide (0 ≤ (q1 : Int)) = true := by simp
        have i1 : (0 : Int) ≤ (q1 : Int) := by omega
        have i2 : (q1 : Int) < (l.stn : Int) := by omega
        have l0' := blk_cell (blk_below HBL.out hq1) 0 _ rfl
        have r3 := blk_cell bR1 3 _ rfl
        have z3 := blk_free bR1 3
        have bRn := rowLn_set bR1 (.int .i64 ln)
        have bBn := blk_set_other bB1 3 (.int .i64 ln) hne2
        have kpn := kp1.set (a := ⟨rb + 1, 3, none⟩) rfl (.int .i64 ln)
        have hqn : Below wc.heap.size wc (Y1.setCell ⟨rb + 1, 3, none⟩ (.int .i64 ln)) := hq1.setCell (p := ⟨rb + 1, 3, none⟩) hle _
        have y1 := blk_cell bBn 1 _ rfl
        have m1' := blk_cell (blk_below HBL.out hqn) 1 _ rfl
        go_wp2_with fail
        generalize (Y1.setCell ⟨rb + 1, 3, none⟩ (.int .i64 ln)) = Z1 at bRn bBn kpn hqn y1 m1' ⊢
        clear bR1 bB1 kp1 hq1 y1 m1' s1 d0 i1 i2 l0' r3 z3 g0 g1
        refine (roomOf_any aro l.ron cro l.ro b.who _ n3 (HRO.out.below (after hb1 hqn))).mono ?_
        rintro e Y2 ⟨rfl, hby⟩
        have bB1 := blk_below bBn hby
        have bR1 := blk_below bRn hby
        have kp1 : Kept R0 Y2 (fun g => g = rb + 1) := kpn.trans (Kept.of_below hby)
        have hq1 := after hqn hby
        clear bBn bRn kpn hqn hby
        by_cases hf2 : ixOf (whoR l.ro) b.who l.ron < l.ron
        · skip
          rw [ixAns_pos hf2]
          have HV2 : Hid (cn = (l.ro (ixOf (whoR l.ro) b.who l.ron)).cab) := by have := HCN.out; rw [if_pos hf2] at this; exact this
          obtain ⟨q2, hq2'⟩ : ∃ q, q = ixOf (whoR l.ro) b.who l.ron := ⟨_, rfl⟩
          rw [← hq2'] at hf2 HV2 ⊢
          clear hq2'
          obtain ⟨tb, to', rfl, g0, g1, _, _⟩ := HRO.out q2 hf2
          have ltb := World.block_lt_of_cell? w _ g0
          have s1 : Y2.cell? ⟨tb, to' + q2 * 4 + 1, none⟩ = some (.int .i64 cn) := ((after hb1 hq1).cell (p := ⟨tb, to' + q2 * 4 + 1, none⟩) ltb).trans (by rw [HV2.out]; exact g1)
          have d0 : decide (0 ≤ (q2 : Int)) = true := by simp
          have i1 : (0 : Int) ≤ (q2 : Int) := by omega
          have i2 : (q2 : Int) < (l.ron : Int) := by omega
          have l1' := blk_cell (blk_below HBL.out hq1) 1 _ rfl
          have r3 := blk_cell bR1 4 _ rfl
          have z3 := blk_free bR1 4
          have bRn := rowCab_set bR1 (.int .i64 cn)
          have bBn := blk_set_other bB1 4 (.int .i64 cn) hne2
          have kpn := kp1.set (a := ⟨rb + 1, 4, none⟩) rfl (.int .i64 cn)
          have hqn : Below wc.heap.size wc (Y2.setCell ⟨rb + 1, 4, none⟩ (.int .i64 cn)) := hq1.setCell (p := ⟨rb + 1, 4, none⟩) hle _
          have t0 := blk_cell bRn 0 _ rfl
          have t1 := blk_cell bRn 1 _ rfl
          have t2 := blk_cell bRn 2 _ rfl
          have t3 := blk_cell bRn 3 _ rfl
          have t4 := blk_cell bRn 4 _ rfl
          have hown4 := kpn.own hown1 (fun g hg e => by have := HVB.out g hg; have e : g = rb + 1 := e; omega)
          have hsz5 : wc.heap.size ≤ ((Y2.setCell ⟨rb + 1, 4, none⟩ (.int .i64 cn)).alloc (.cells #[.int .i64 b.name, .string b.own, .int .i64 b.pe, .int .i64 ln, .int .i64 cn] 116)).heap.size := (push hqn _).size
          have HNW : Hid (∀ ad, (some ⟨(Y2.setCell ⟨rb + 1, 4, none⟩ (.int .i64 cn)).heap.size, 0, none⟩ : Option Addr) = some ad → ∀ j u, ([.int .i64 b.name, .string b.own, .int .i64 b.pe, .int .i64 ln, .int .i64 cn] : List Value)[j]? = some u → ((Y2.setCell ⟨rb + 1, 4, none⟩ (.int .i64 cn)).alloc (.cells #[.int .i64 b.name, .string b.own, .int .i64 b.pe, .int .i64 ln, .int .i64 cn] 116)).cell? (ad.add j) = some u) := by
            intro ad e
            cases e
            exact World.news_of_block (heap_alloc_new (Y2.setCell ⟨rb + 1, 4, none⟩ (.int .i64 cn)) _)
          go_wp2_with (first | (at_builtin; refine wpList_append_any _ (by rfl) (.tmp 67) (.tmp 69) 55 (by rfl) wc.heap.size 116 j0 (.agg #[.int .i64 0, .string ⟨#[]⟩, .int .i64 0, .int .i64 0, .int .i64 0]) 5 48 Tryz.underlying55 ji jz0 jz1 jz2 rfl (by decide) _ i (rowList R i) (by rfl) (hown4.alloc _) (some ⟨Y2.heap.size, 0, none⟩) 1 1 [.int .i64 b.name, .string b.own, .int .i64 b.pe, .int .i64 ln, .int .i64 cn] (by rfl) (fun h => (by cases h)) (by rfl) (by simpa using HNW.out) (by intro u hu; simp at hu; rcases hu with rfl | rfl | rfl | rfl | rfl <;> rfl) (by unfold maxLen; omega) (by omega) (by first | exact hsz5 | simpa using hsz5) ?_; intro v' w3 ho3 hg3))
          go_roundw
          case rel =>
            refine ⟨i + 1, by omega, by go_num, ?_, (push hqn _).grown hg3 hsz5 (fun j hj => (hown4.lt j hj).1)⟩
            rw [rowList_succ, HRI.out]
            exact ho3
          case measure => simp [intOf]; omega
        · skip
          have HV2 : Hid (cn = -1) := by have := HCN.out; rw [if_neg hf2] at this; exact this
          have hr2 := ixAns_neg hf2
          rw [hr2]
          clear hr2
          have bRn := bR1
          have bBn := bB1
          have kpn := kp1
          have hqn := hq1
          have t0 := blk_cell bRn 0 _ rfl
          have t1 := blk_cell bRn 1 _ rfl
          have t2 := blk_cell bRn 2 _ rfl
          have t3 := blk_cell bRn 3 _ rfl
          have t4 := blk_cell bRn 4 _ rfl
          have hown4 := kpn.own hown1 (fun g hg e => by have := HVB.out g hg; have e : g = rb + 1 := e; omega)
          have hsz5 : wc.heap.size ≤ (Y2.alloc (.cells #[.int .i64 b.name, .string b.own, .int .i64 b.pe, .int .i64 ln, .int .i64 (-1)] 116)).heap.size := (push hqn _).size
          have HNW : Hid (∀ ad, (some ⟨Y2.heap.size, 0, none⟩ : Option Addr) = some ad → ∀ j u, ([.int .i64 b.name, .string b.own, .int .i64 b.pe, .int .i64 ln, .int .i64 (-1)] : List Value)[j]? = some u → (Y2.alloc (.cells #[.int .i64 b.name, .string b.own, .int .i64 b.pe, .int .i64 ln, .int .i64 (-1)] 116)).cell? (ad.add j) = some u) := by
            intro ad e
            cases e
            exact World.news_of_block (heap_alloc_new Y2 _)
          go_wp2_with (first | (at_builtin; refine wpList_append_any _ (by rfl) (.tmp 67) (.tmp 69) 55 (by rfl) wc.heap.size 116 j0 (.agg #[.int .i64 0, .string ⟨#[]⟩, .int .i64 0, .int .i64 0, .int .i64 0]) 5 48 Tryz.underlying55 ji jz0 jz1 jz2 rfl (by decide) _ i (rowList R i) (by rfl) (hown4.alloc _) (some ⟨Y2.heap.size, 0, none⟩) 1 1 [.int .i64 b.name, .string b.own, .int .i64 b.pe, .int .i64 ln, .int .i64 (-1)] (by rfl) (fun h => (by cases h)) (by rfl) (by exact HNW.out) (by intro u hu; simp at hu; rcases hu with rfl | rfl | rfl | rfl | rfl <;> rfl) (by unfold maxLen; omega) (by omega) (by first | exact hsz5 | simpa using hsz5) ?_; intro v' w3 ho3 hg3))
          go_roundw
          case rel =>
            refine ⟨i + 1, by omega, by go_num, ?_, (push hqn _).grown hg3 hsz5 (fun j hj => (hown4.lt j hj).1)⟩
            rw [rowList_succ, HRI.out]
            rw [HV2.out]
            exact ho3
          case measure => simp [intOf]; omega
      · skip
        have HV1 : Hid (ln = -1) := by have := HLN.out; rw [if_neg hf1] at this; exact this
        have hr1 := ixAns_neg hf1
        rw [hr1]
        clear hr1
        have bRn := bR1
        have bBn := bB1
        have kpn := kp1
        have hqn := hq1
        have y1 := blk_cell bBn 1 _ rfl
        have m1' := blk_cell (blk_below HBL.out hqn) 1 _ rfl
        go_wp2_with fail
        clear bR1 bB1 kp1 hq1 y1 m1' 
        refine (roomOf_any aro l.ron cro l.ro b.who _ n3 (HRO.out.below (after hb1 hqn))).mono ?_
        rintro e Y2 ⟨rfl, hby⟩
        have bB1 := blk_below bBn hby
        have bR1 := blk_below bRn hby
        have kp1 : Kept R0 Y2 (fun g => g = rb + 1) := kpn.trans (Kept.of_below hby)
        have hq1 := after hqn hby
        clear bBn bRn kpn hqn hby
        by_cases hf2 : ixOf (whoR l.ro) b.who l.ron < l.ron
        · skip
          rw [ixAns_pos hf2]
          have HV2 : Hid (cn = (l.ro (ixOf (whoR l.ro) b.who l.ron)).cab) := by have := HCN.out; rw [if_pos hf2] at this; exact this
          obtain ⟨q2, hq2'⟩ : ∃ q, q = ixOf (whoR l.ro) b.who l.ron := ⟨_, rfl⟩
          rw [← hq2'] at hf2 HV2 ⊢
          clear hq2'
          obtain ⟨tb, to', rfl, g0, g1, _, _⟩ := HRO.out q2 hf2
          have ltb := World.block_lt_of_cell? w _ g0
          have s1 : Y2.cell? ⟨tb, to' + q2 * 4 + 1, none⟩ = some (.int .i64 cn) := ((after hb1 hq1).cell (p := ⟨tb, to' + q2 * 4 + 1, none⟩) ltb).trans (by rw [HV2.out]; exact g1)
          have d0 : decide (0 ≤ (q2 : Int)) = true := by simp
          have i1 : (0 : Int) ≤ (q2 : Int) := by omega
          have i2 : (q2 : Int) < (l.ron : Int) := by omega
          have l1' := blk_cell (blk_below HBL.out hq1) 1 _ rfl
          have r3 := blk_cell bR1 4 _ rfl
          have z3 := blk_free bR1 4
          have bRn := rowCab_set bR1 (.int .i64 cn)
          have bBn := blk_set_other bB1 4 (.int .i64 cn) hne2
          have kpn := kp1.set (a := ⟨rb + 1, 4, none⟩) rfl (.int .i64 cn)
          have hqn : Below wc.heap.size wc (Y2.setCell ⟨rb + 1, 4, none⟩ (.int .i64 cn)) := hq1.setCell (p := ⟨rb + 1, 4, none⟩) hle _
          have t0 := blk_cell bRn 0 _ rfl
          have t1 := blk_cell bRn 1 _ rfl
          have t2 := blk_cell bRn 2 _ rfl
          have t3 := blk_cell bRn 3 _ rfl
          have t4 := blk_cell bRn 4 _ rfl
          have hown4 := kpn.own hown1 (fun g hg e => by have := HVB.out g hg; have e : g = rb + 1 := e; omega)
          have hsz5 : wc.heap.size ≤ ((Y2.setCell ⟨rb + 1, 4, none⟩ (.int .i64 cn)).alloc (.cells #[.int .i64 b.name, .string b.own, .int .i64 b.pe, .int .i64 (-1), .int .i64 cn] 116)).heap.size := (push hqn _).size
          have HNW : Hid (∀ ad, (some ⟨(Y2.setCell ⟨rb + 1, 4, none⟩ (.int .i64 cn)).heap.size, 0, none⟩ : Option Addr) = some ad → ∀ j u, ([.int .i64 b.name, .string b.own, .int .i64 b.pe, .int .i64 (-1), .int .i64 cn] : List Value)[j]? = some u → ((Y2.setCell ⟨rb + 1, 4, none⟩ (.int .i64 cn)).alloc (.cells #[.int .i64 b.name, .string b.own, .int .i64 b.pe, .int .i64 (-1), .int .i64 cn] 116)).cell? (ad.add j) = some u) := by
            intro ad e
            cases e
            exact World.news_of_block (heap_alloc_new (Y2.setCell ⟨rb + 1, 4, none⟩ (.int .i64 cn)) _)
          go_wp2_with (first | (at_builtin; refine wpList_append_any _ (by rfl) (.tmp 67) (.tmp 69) 55 (by rfl) wc.heap.size 116 j0 (.agg #[.int .i64 0, .string ⟨#[]⟩, .int .i64 0, .int .i64 0, .int .i64 0]) 5 48 Tryz.underlying55 ji jz0 jz1 jz2 rfl (by decide) _ i (rowList R i) (by rfl) (hown4.alloc _) (some ⟨Y2.heap.size, 0, none⟩) 1 1 [.int .i64 b.name, .string b.own, .int .i64 b.pe, .int .i64 (-1), .int .i64 cn] (by rfl) (fun h => (by cases h)) (by rfl) (by simpa using HNW.out) (by intro u hu; simp at hu; rcases hu with rfl | rfl | rfl | rfl | rfl <;> rfl) (by unfold maxLen; omega) (by omega) (by first | exact hsz5 | simpa using hsz5) ?_; intro v' w3 ho3 hg3))
          go_roundw
          case rel =>
            refine ⟨i + 1, by omega, by go_num, ?_, (push hqn _).grown hg3 hsz5 (fun j hj => (hown4.lt j hj).1)⟩
            rw [rowList_succ, HRI.out]
            rw [HV1.out]
            exact ho3
          case measure => simp [intOf]; omega
        · skip
          have HV2 : Hid (cn = -1) := by have := HCN.out; rw [if_neg hf2] at this; exact this
          have hr2 := ixAns_neg hf2
          rw [hr2]
          clear hr2
          have bRn := bR1
          have bBn := bB1
          have kpn := kp1
          have hqn := hq1
          have t0 := blk_cell bRn 0 _ rfl
          have t1 := blk_cell bRn 1 _ rfl
          have t2 := blk_cell bRn 2 _ rfl
          have t3 := blk_cell bRn 3 _ rfl
          have t4 := blk_cell bRn 4 _ rfl
          have hown4 := kpn.own hown1 (fun g hg e => by have := HVB.out g hg; have e : g = rb + 1 := e; omega)
          have hsz5 : wc.heap.size ≤ (Y2.alloc (.cells #[.int .i64 b.name, .string b.own, .int .i64 b.pe, .int .i64 (-1), .int .i64 (-1)] 116)).heap.size := (push hqn _).size
          have HNW : Hid (∀ ad, (some ⟨Y2.heap.size, 0, none⟩ : Option Addr) = some ad → ∀ j u, ([.int .i64 b.name, .string b.own, .int .i64 b.pe, .int .i64 (-1), .int .i64 (-1)] : List Value)[j]? = some u → (Y2.alloc (.cells #[.int .i64 b.name, .string b.own, .int .i64 b.pe, .int .i64 (-1), .int .i64 (-1)] 116)).cell? (ad.add j) = some u) := by
            intro ad e
            cases e
            exact World.news_of_block (heap_alloc_new Y2 _)
          go_wp2_with (first | (at_builtin; refine wpList_append_any _ (by rfl) (.tmp 67) (.tmp 69) 55 (by rfl) wc.heap.size 116 j0 (.agg #[.int .i64 0, .string ⟨#[]⟩, .int .i64 0, .int .i64 0, .int .i64 0]) 5 48 Tryz.underlying55 ji jz0 jz1 jz2 rfl (by decide) _ i (rowList R i) (by rfl) (hown4.alloc _) (some ⟨Y2.heap.size, 0, none⟩) 1 1 [.int .i64 b.name, .string b.own, .int .i64 b.pe, .int .i64 (-1), .int .i64 (-1)] (by rfl) (fun h => (by cases h)) (by rfl) (by exact HNW.out) (by intro u hu; simp at hu; rcases hu with rfl | rfl | rfl | rfl | rfl <;> rfl) (by unfold maxLen; omega) (by omega) (by first | exact hsz5 | simpa using hsz5) ?_; intro v' w3 ho3 hg3))
          go_roundw
          case rel =>
            refine ⟨i + 1, by omega, by go_num, ?_, (push hqn _).grown hg3 hsz5 (fun j hj => (hown4.lt j hj).1)⟩
            rw [rowList_succ, HRI.out]
            rw [HV1.out]
            rw [HV2.out]
            exact ho3
          case measure => simp [intOf]; omega
    · obtain rfl : i = m := by omega
      go_wp2
      go_ret
      refine ⟨⟨_, rfl, ?_⟩, hbw⟩
      rw [HRES.out.1, rowList_congr (S' := R) (fun j hj => by rw [HR.out]; exact HR2.out j hj)]
      exact own_base hown hb1.size
end Go.Proofs.YtlelckbeoclhbaaGreat

namespace Go.Proofs.YtlelckbeoclhbaaGreat
open Go.RowKit Go.Shelf Classical
abbrev SightV := Value × Value × Value × Int
def encS (v : SightV) : Array Value := #[.agg #[v.1, v.2.1, v.2.2.1, .int .i64 v.2.2.2]]
structure FitS (x : Off) (k : Nat) (v : SightV) (s0 : Nat) (W : World) : Prop where
  lt : k < x.san
  row : W.ownsRow s0 116 5 v.1 ((viewW x).rn k) (rowList ((viewW x).rf k) ((viewW x).rn k))
  lan : W.ownsRow s0 3 1 v.2.1 ((viewW x).ln k) (intList ((viewW x).lf k) ((viewW x).ln k))
  ber : W.ownsRow s0 3 1 v.2.2.1 ((viewW x).qn k) (intList ((viewW x).qf k) ((viewW x).qn k))
  far : ∀ b, v.2.1.ownBlock = some b → v.2.2.1.ownBlock ≠ some b
  peo : v.2.2.2 = (viewW x).pf k
def KpS (n0 ob : Nat) (W W' : World) : Prop := Below n0 W W' ∧ W'.heap[ob]? = W.heap[ob]?
theorem abides_below {J : List SightV → World → Prop} {B : Nat} (h : AbidesFrom B J) {pre : List SightV} {W W' : World} (hj : J pre W) (hb : Below W.heap.size W W') : J pre W' :=
  h pre W W' none hj ⟨hb.os, hb.tape, hb.output, hb.size, fun k hk _ => hb.block k hk⟩ (fun r e => by cases e)
attribute [local go_sem] Oper.semAt_some
theorem sights_fit (n : Nat) (x : Off) (asa ald abk : Option Addr) (csa cld cbk ob : Nat) (w v : World) (hok : OffOk x) (hs : Off.Short x 1048576) (hsa : SailsAt w asa x.san x.sa) (hld : LoadsAt w ald x.ldn x.ld) (hbk : BooksAt w abk x.bkn x.bk) (hbv : Below w.heap.size w v) (hb : v.heap[ob]? = some (.cells #[.slice asa x.san csa, .slice ald x.ldn cld, .slice abk x.bkn cbk] 39 (0, 0))) :
    SeqFit Fence.wide n Tryz.prog 67 #[.pointer (some ⟨ob, 0, none⟩)] encS (KpS w.heap.size ob) (FitS x) x.san v := fun l J W hW hJ hY h0 => by
  have HSH : Hid (Off.Short x 1048576) := hs
  have HSA : Hid (SailsAt w asa x.san x.sa) := hsa
  have HLD : Hid (LoadsAt w ald x.ldn x.ld) := hld
  have HBK : Hid (BooksAt w abk x.bkn x.bk) := hbk
  have HOK : Hid (OffOk x) := hok
  have hbn : x.bkn ≤ 30 := hok.2.2.1
  have hsn : x.san ≤ 6 := hok.1.1
  have HLN : Hid (x.ldn = x.san) := hok.2.1
  have HJ : Hid (AbidesFrom W.heap.size J) := hJ
  have HY : Hid _ := hY
  have bW := blk_below hb hW
  have hbW : Below w.heap.size w W := hbv.trans (hW.mono hbv.size)
  have x0 := blk_cell bW 0 _ rfl
  clear hs hsa hld hbk hok hY hJ hb hbv
  refine callsIn_of_wp Tryz.func67 rfl trivial ?_ rfl
  simp only [Tryz.ntmps67, List.size_toArray, List.length_cons, List.length_nil, Nat.reduceAdd, Nat.reduceSub, Array.replicate_succ, Array.replicate_zero, List.push_toArray, List.append_toArray, List.nil_append, List.cons_append]
  refine wpIn_wide.2 ?_
  go_wp2
  clear x0
  go_loopw [3, 4, 5, 6, 7, 11] (fun _ _ _ _ _ i wr => ∃ (k : Nat) (pre : List SightV), k ≤ x.san ∧ pre.length = k ∧ i = .int .i64 k ∧ Hid (J pre wr) ∧ Below w.heap.size w wr ∧ wr.heap[ob]? = some (.cells #[.slice asa x.san csa, .slice ald x.ldn cld, .slice abk x.bkn cbk] 39 (0, 0)) ∧ Hid (W.heap.size ≤ wr.heap.size)) (fun _ _ _ _ _ i _ => x.san - (intOf i).toNat)
  case atStart => exact ⟨0, [], Nat.zero_le _, rfl, rfl, h0, hbW, bW, Nat.le_refl _⟩
  case round =>
    clear h0 hbW bW
    obtain ⟨k, pre, hk, hpre, rfl, HJP, hbr, bO, HSZ⟩ := hrel
    by_cases hlt : k < x.san
    · --R
      obtain ⟨sgb, soff, la, lc, ca, cc, ea1, s0, s1, s2, s3, s4, s5, s6, s7, hla, hca, sla, sca⟩ := HSA.out k hlt
      subst ea1
      obtain ⟨CL, hCL, hIL⟩ := HLD.out
      obtain ⟨lb, lo, ea2, hcl⟩ := hCL k (by have := HLN.out; omega)
      subst ea2
      obtain ⟨ast, cst, aro, cro, ase, cse, eCL, hst, sst, hro, sro, hse, sse⟩ := hIL k (by have := HLN.out; omega)
      have hsb := World.block_lt_of_cell? w _ s1
      have llb : lb < w.heap.size := World.block_lt_of_cell? w _ (hcl 0 (by decide))
      have HLC : Hid (∀ u, Below w.heap.size w u → u.cell? ⟨lb, lo + k * 3, none⟩ = some (.slice ast (x.ld k).stn cst) ∧ u.cell? ⟨lb, lo + k * 3 + 1, none⟩ = some (.slice aro (x.ld k).ron cro) ∧ u.cell? ⟨lb, lo + k * 3 + 2, none⟩ = some (.slice ase (x.ld k).sen cse)) := fun u h =>
        ⟨(h.cell (p := ⟨lb, lo + k * 3, none⟩) llb).trans (by have := hcl 0 (by decide); rw [eCL] at this; exact this), (h.cell (p := ⟨lb, lo + k * 3 + 1, none⟩) llb).trans (by have := hcl 1 (by decide); rw [eCL] at this; exact this), (h.cell (p := ⟨lb, lo + k * 3 + 2, none⟩) llb).trans (by have := hcl 2 (by decide); rw [eCL] at this; exact this)⟩
      have HP : Hid (LoadOk (x.sa k) (x.ld k)) := HOK.out.2.2.2.1 k hlt
      have HRD : Hid (PairsAt w la (x.sa k).la ∧ PairsAt w ca (x.sa k).ca ∧ (StaysAt w ast (x.ld k).stn (x.ld k).st ∧ (x.ld k).stn ≤ cst) ∧ (RoomsAt w aro (x.ld k).ron (x.ld k).ro ∧ (x.ld k).ron ≤ cro) ∧ (SeatsAt w ase (x.ld k).sen (x.ld k).se ∧ (x.ld k).sen ≤ cse)) := ⟨hla, hca, ⟨hst, sst.1⟩, ⟨hro, sro.1⟩, hse, sse.1⟩
      have d0 := (hbr.cell (p := ⟨sgb, soff + k * 8, none⟩) hsb).trans s0
      have d1 := (hbr.cell (p := ⟨sgb, soff + k * 8 + 1, none⟩) hsb).trans s1
      have d2 := (hbr.cell (p := ⟨sgb, soff + k * 8 + 2, none⟩) hsb).trans s2
      have d3 := (hbr.cell (p := ⟨sgb, soff + k * 8 + 3, none⟩) hsb).trans s3
      have d4 := (hbr.cell (p := ⟨sgb, soff + k * 8 + 4, none⟩) hsb).trans s4
      have d5 := (hbr.cell (p := ⟨sgb, soff + k * 8 + 5, none⟩) hsb).trans s5
      have d6 := (hbr.cell (p := ⟨sgb, soff + k * 8 + 6, none⟩) hsb).trans s6
      have d7 := (hbr.cell (p := ⟨sgb, soff + k * 8 + 7, none⟩) hsb).trans s7
      have i1 : (k : Int) < (x.san : Int) := by omega
      have i2 : (k : Int) < (x.ldn : Int) := by have := HLN.out; omega
      have i0 : (0 : Int) ≤ (k : Int) := by omega
      have hb2 : Below w.heap.size w (wr.alloc (.cells #[.int .i64 (x.sa k).id, .string (x.sa k).fr, .string (x.sa k).dst, .int .i64 (x.sa k).dep, .int .i64 (x.sa k).arr, .slice la (x.sa k).la.n lc, .slice ca (x.sa k).ca.n cc, .int .i64 (x.sa k).most] 54)) := push hbr _
      have HB2 : Hid (Below wr.heap.size wr (wr.alloc (.cells #[.int .i64 (x.sa k).id, .string (x.sa k).fr, .string (x.sa k).dst, .int .i64 (x.sa k).dep, .int .i64 (x.sa k).arr, .slice la (x.sa k).la.n lc, .slice ca (x.sa k).ca.n cc, .int .i64 (x.sa k).most] 54))) := push (Below.refl _ _) _
      have bO2 := blk_alloc bO (.cells #[.int .i64 (x.sa k).id, .string (x.sa k).fr, .string (x.sa k).dst, .int .i64 (x.sa k).dep, .int .i64 (x.sa k).arr, .slice la (x.sa k).la.n lc, .slice ca (x.sa k).ca.n cc, .int .i64 (x.sa k).most] 54)
      have bS2 := heap_alloc_new wr (.cells #[.int .i64 (x.sa k).id, .string (x.sa k).fr, .string (x.sa k).dst, .int .i64 (x.sa k).dep, .int .i64 (x.sa k).arr, .slice la (x.sa k).la.n lc, .slice ca (x.sa k).ca.n cc, .int .i64 (x.sa k).most] 54)
      clear s0 s1 s2 s3 s4 s5 s6 s7 hla hca sla sca hst sst hro sro hse sse hCL hIL hcl eCL bO hbr
      go_upto_region 3 with fail
      generalize wr.alloc (.cells #[.int .i64 (x.sa k).id, .string (x.sa k).fr, .string (x.sa k).dst, .int .i64 (x.sa k).dep, .int .i64 (x.sa k).arr, .slice la (x.sa k).la.n lc, .slice ca (x.sa k).ca.n cc, .int .i64 (x.sa k).most] 54) = V2 at hb2 HB2 bO2 bS2 ⊢
      clear d0 d1 d2 d3 d4 d5 d6 d7
      obtain ⟨sb, hsbe⟩ : ∃ sb, sb = wr.heap.size := ⟨_, rfl⟩
      rw [← hsbe] at bS2 ⊢
      have HSBE : Hid (sb = wr.heap.size) := hsbe
      clear hsbe
      have KS : Hid (∀ w', Below V2.heap.size V2 w' → (w'.cell? ⟨ob, 1, none⟩ = some (.slice (some ⟨lb, lo, none⟩) x.ldn cld) ∧ w'.cell? ⟨sb, 0, none⟩ = some (.int .i64 (x.sa k).id) ∧ w'.cell? ⟨sb, 1, none⟩ = some (.string (x.sa k).fr) ∧ w'.cell? ⟨sb, 2, none⟩ = some (.string (x.sa k).dst) ∧ w'.cell? ⟨sb, 3, none⟩ = some (.int .i64 (x.sa k).dep) ∧ w'.cell? ⟨sb, 4, none⟩ = some (.int .i64 (x.sa k).arr) ∧ w'.cell? ⟨sb, 5, none⟩ = some (.slice la (x.sa k).la.n lc) ∧ w'.cell? ⟨sb, 6, none⟩ = some (.slice ca (x.sa k).ca.n cc) ∧ w'.cell? ⟨sb, 7, none⟩ = some (.int .i64 (x.sa k).most) ∧ w'.cell? ⟨lb, lo + k * 3, none⟩ = some (.slice ast (x.ld k).stn cst) ∧ w'.cell? ⟨lb, lo + k * 3 + 1, none⟩ = some (.slice aro (x.ld k).ron cro) ∧ w'.cell? ⟨lb, lo + k * 3 + 2, none⟩ = some (.slice ase (x.ld k).sen cse))) := fun w' h => by
        have g2 := blk_below bO2 h
        have g3 := blk_below bS2 h
        have g4 := HLC.out w' (hb2.trans (h.mono hb2.size))
        exact ⟨blk_cell g2 1 _ rfl, blk_cell g3 0 _ rfl, blk_cell g3 1 _ rfl, blk_cell g3 2 _ rfl, blk_cell g3 3 _ rfl, blk_cell g3 4 _ rfl, blk_cell g3 5 _ rfl, blk_cell g3 6 _ rfl, blk_cell g3 7 _ rfl, g4.1, g4.2.1, g4.2.2⟩
      have HC : Hid (∀ w', Below V2.heap.size V2 w' → Calls Tryz.prog 68 #[.agg #[.int .i64 (x.sa k).id, .string (x.sa k).fr, .string (x.sa k).dst, .int .i64 (x.sa k).dep, .int .i64 (x.sa k).arr, .slice la (x.sa k).la.n lc, .slice ca (x.sa k).ca.n cc, .int .i64 (x.sa k).most], .agg #[.slice ast (x.ld k).stn cst, .slice aro (x.ld k).ron cro, .slice ase (x.ld k).sen cse]] w' fun e w2 => OnV (x.sa k) (x.ld k) w'.heap.size 3 e w2 ∧ Below w'.heap.size w' w2) := fun w' h =>
        leftOn_any (x.sa k) (x.ld k) la ca ast aro ase lc cc cst cro cse w' HP.out ⟨(HSH.out.1.2 k hlt).2.2.1, (HSH.out.1.2 k hlt).2.2.2⟩ (HSH.out.2.1.2 k (by have := HLN.out; omega)) (HRD.out.1.below (after hb2 h)) (HRD.out.2.1.below (after hb2 h)) ⟨HRD.out.2.2.1.1.below (after hb2 h), HRD.out.2.2.1.2⟩ ⟨HRD.out.2.2.2.1.1.below (after hb2 h), HRD.out.2.2.2.1.2⟩ ⟨HRD.out.2.2.2.2.1.below (after hb2 h), HRD.out.2.2.2.2.2⟩
      go_region_held3 (fun w' => (w'.cell? ⟨ob, 1, none⟩ = some (.slice (some ⟨lb, lo, none⟩) x.ldn cld) ∧ w'.cell? ⟨sb, 0, none⟩ = some (.int .i64 (x.sa k).id) ∧ w'.cell? ⟨sb, 1, none⟩ = some (.string (x.sa k).fr) ∧ w'.cell? ⟨sb, 2, none⟩ = some (.string (x.sa k).dst) ∧ w'.cell? ⟨sb, 3, none⟩ = some (.int .i64 (x.sa k).dep) ∧ w'.cell? ⟨sb, 4, none⟩ = some (.int .i64 (x.sa k).arr) ∧ w'.cell? ⟨sb, 5, none⟩ = some (.slice la (x.sa k).la.n lc) ∧ w'.cell? ⟨sb, 6, none⟩ = some (.slice ca (x.sa k).ca.n cc) ∧ w'.cell? ⟨sb, 7, none⟩ = some (.int .i64 (x.sa k).most) ∧ w'.cell? ⟨lb, lo + k * 3, none⟩ = some (.slice ast (x.ld k).stn cst) ∧ w'.cell? ⟨lb, lo + k * 3 + 1, none⟩ = some (.slice aro (x.ld k).ron cro) ∧ w'.cell? ⟨lb, lo + k * 3 + 2, none⟩ = some (.slice ase (x.ld k).sen cse)))
        ((refine KS.out _ ?_; exact (by repeat (first | exact Below.refl _ _ | refine Below.drew ?_ | refine after ?_ hbb | refine push ?_ _))))
        (first | (go_at_call 68; refine Calls.mono (HC.out _ (by repeat (first | exact Below.refl _ _ | refine Below.drew ?_))) ?_; rintro e w9 ⟨⟨v1, v2, rfl, o1, o2, oa⟩, hbb⟩))
      obtain ⟨e1, f1, rfl, _⟩ := own_form o1
      obtain ⟨e2, f2, rfl, _⟩ := own_form o2
      have hv9 : Below V2.heap.size V2 w9 := after (Below.refl _ V2).drew hbb
      have HO1 : Hid (w9.ownsRow wr.heap.size 3 1 (.slice e1 (x.sa k).la.n f1) (x.sa k).la.n (intList (left (x.sa k).la (x.ld k).st (x.ld k).stn) (x.sa k).la.n)) := own_base o1 (after HB2.out (Below.refl _ V2).drew).size
      have HO2 : Hid (w9.ownsRow wr.heap.size 3 1 (.slice e2 (x.sa k).ca.n f2) (x.sa k).ca.n (intList (leftR (x.sa k).ca (x.ld k).ro (x.ld k).ron) (x.sa k).ca.n)) := own_base o2 (after HB2.out (Below.refl _ V2).drew).size
      have HAP : Hid (∀ b, (Value.slice e1 (x.sa k).la.n f1).ownBlock = some b → (Value.slice e2 (x.sa k).ca.n f2).ownBlock ≠ some b) := oa
      have bO9 := blk_below bO2 hv9
      have hb9 := after hb2 hv9
      have HB9 : Hid (Below wr.heap.size wr w9) := after HB2.out hv9
      clear o1 o2 oa hbb KS HC hb2 bO2 bS2 hv9 HB2 HSBE
      go_upto_region 4 with fail
      have z0 := blk_cell bO9 0 _ rfl
      have z1 := blk_cell bO9 1 _ rfl
      have z2 := blk_cell bO9 2 _ rfl
      refine (wpIn_wide (n := n)).1 ?_
      gi_wp2_with fail
      refine ⟨trivial, (fun h => absurd h (by decide)), callsIn_wide.2 (Calls.mono (rowsOf_raw x (some ⟨sgb, soff, none⟩) (some ⟨lb, lo, none⟩) abk csa cld cbk k w9 HSH.out (HSA.out.below hb9) (HLD.out.below hb9) (HBK.out.below hb9) hbn hlt HLN.out HP.out) ?_)⟩
      rintro e w10 ⟨⟨rv, rfl, hro⟩, hbx⟩
      obtain ⟨e3, f3, rfl, _⟩ := own_form hro
      have HBX : Hid (Below wr.heap.size wr w10) := after HB9.out hbx
      have bO10 := blk_below bO9 hbx
      have HF : Hid (FitS x k (.slice e3 (rowsL (x.ld k) x.bk (x.sa k).id x.bkn).length f3, .slice e1 (x.sa k).la.n f1, .slice e2 (x.sa k).ca.n f2, (x.sa k).most - sits (x.ld k).se (x.ld k).sen) wr.heap.size w10) := ⟨hlt, own_base hro HB9.out.size, own_below hbx HO1.out, own_below hbx HO2.out, HAP.out, rfl⟩
      have hb10 := after hb9 hbx
      have HJ1 : J pre w10 := abides_below HJ.out HJP.out HBX.out
      obtain ⟨yfn, ytmps, yassign, ybody, hyy, hRR⟩ := HY.out pre (.slice e3 (rowsL (x.ld k) x.bk (x.sa k).id x.bkn).length f3, .slice e1 (x.sa k).la.n f1, .slice e2 (x.sa k).ca.n f2, (x.sa k).most - sits (x.ld k).se (x.ld k).sen) wr w10 HJP.out HBX.out HJ1 (by rw [hpre]; exact HF.out)
      have HRR : Hid _ := hRR
      replace hyy : (Instr.yield l #[.agg #[.slice e3 (rowsL (x.ld k) x.bk (x.sa k).id x.bkn).length f3, .slice e1 (x.sa k).la.n f1, .slice e2 (x.sa k).ca.n f2, .int .i64 ((x.sa k).most - sits (x.ld k).se (x.ld k).sen)]]).run Tryz.prog w10 = .ok (.round l yfn ytmps yassign ybody) w10 := hyy
      clear hRR HJ1 z0 z1 z2 hro hbx hb9 HO1 HO2 HAP HF
      dsimp only
      gi_wp2
      refine ⟨(fun h => absurd h (by decide)), RoundIn.mono HRR.out ?_⟩
      rintro e W9 ⟨rfl, hJ9, hk9, ho9⟩
      have HJ9 : Hid (J (pre ++ [(.slice e3 (rowsL (x.ld k) x.bk (x.sa k).id x.bkn).length f3, .slice e1 (x.sa k).la.n f1, .slice e2 (x.sa k).ca.n f2, (x.sa k).most - sits (x.ld k).se (x.ld k).sen)]) W9) := hJ9
      have hw9 := hb10.trans hk9
      have bO9 := ho9.trans bO10
      have HS9 : Hid (W.heap.size ≤ W9.heap.size) := Nat.le_trans HSZ.out (Nat.le_trans HBX.out.size hk9.size)
      clear hJ9 hk9 ho9 HRR hyy HJP HB9 HBX hb10 bO10 HSZ HY
      gi_wp2
      go_wp2
      go_roundw
      case rel => exact ⟨k + 1, _, by omega, by rw [List.length_append, hpre]; rfl, by go_num, HJ9, hw9, bO9, HS9⟩
      case measure => simp [intOf]; omega
      --E
    · obtain rfl : k = x.san := by omega
      go_wp2
      go_end0
      exact ⟨⟨_, rfl⟩, pre, hpre, HJP.out⟩
end Go.Proofs.YtlelckbeoclhbaaGreat

namespace Go.Proofs.YtlelckbeoclhbaaGreat
open Go.RowKit Go.Shelf
theorem own_cellsB {w : World} {base e size n : Nat} {v : Value} {xs : List Value} (h : w.ownsRow base e size v n xs) {b : Nat} {o : Obj} (hv : v.ownBlock = some b) (hb : w.heap[b]? = some o) : o.isCells = true := by
  rcases h.2 with ⟨rfl, _⟩ | ⟨g', cap', cur, rfl, _, hg', _⟩
  · simp [Value.ownBlock] at hv
  · simp only [Value.ownBlock, Option.some.injEq] at hv
    subst hv
    rw [hg'] at hb; cases hb; rfl
section
variable {w w' : World} {base lim : Nat} {V : ViewW} {k1 k2 k3 k4 : Nat} {vb vr vl vq vp : Value} {E R L Q : Nat → Value}
theorem VTo.nocell {T : Nat → Prop} (h : VTo w base lim V k1 k2 k3 k4 vb vr vl vq vp E R L Q) (hk : Kept w w' T) (hT : ∀ b, T b → ∃ o : Obj, w.heap[b]? = some o ∧ o.isCells = false) : VTo w' base lim V k1 k2 k3 k4 vb vr vl vq vp E R L Q := by
  have far : ∀ {be e sz n : Nat} {v : Value} {xs : List Value}, w.ownsRow be e sz v n xs → ∀ b, v.ownBlock = some b → ¬ T b := fun ho b q1 q2 => by
    obtain ⟨o, h1, h2⟩ := hT b q2
    rw [own_cellsB ho q1 h1] at h2; cases h2
  exact ⟨⟨hk.own h.bks.row (far h.bks.row), fun i hi => hk.own (h.bks.legs i hi) (far (h.bks.legs i hi)), h.bks.apart⟩, h.bkl, h.rows.kept hk (far h.rows.row) (fun i hi => far (h.rows.each i hi)),
    h.lan.kept hk (far h.lan.row) (fun i hi => far (h.lan.each i hi)), h.ber.kept hk (far h.ber.row) (fun i hi => far (h.ber.each i hi)), hk.own h.peo (far h.peo), h.a1, h.a2, h.a3, h.a4, h.le⟩
end
structure SeeW (W0 : World) (base ob : Nat) (oc : Array Value) (x : Off) (vb : Value) (E : Nat → Value) (k : Nat) (ar al aq ap : Option Addr) (cr cl cq cp : Nat) (R L Q : Nat → Value) (W : World) : Prop where
  vt : VTo W base W0.heap.size (viewW x) k k k k vb (.slice ar k cr) (.slice al k cl) (.slice aq k cq) (.slice ap k cp) E R L Q
  box : W.heap[W0.heap.size]? = some (.cells #[vb, .slice ar k cr, .slice al k cl, .slice aq k cq, .slice ap k cp] 33 (0, 0))
  obx : W.heap[ob]? = some (.cells oc 39 (0, 0))
  bel : Below W0.heap.size W0 W
def SeeI (W0 : World) (base ob : Nat) (oc : Array Value) (x : Off) (vb : Value) (E : Nat → Value) (xs : List SightV) (W : World) : Prop :=
  ∃ ar al aq ap cr cl cq cp R L Q, SeeW W0 base ob oc x vb E xs.length ar al aq ap cr cl cq cp R L Q W
def SeeI2 (W0 : World) (base ob : Nat) (oc : Array Value) (x : Off) (vb : Value) (E : Nat → Value) (xs : List SightV) (v : SightV) (W : World) : Prop :=
  ∃ ar al aq ap cr cl cq cp R L Q s0, SeeW W0 base ob oc x vb E xs.length ar al aq ap cr cl cq cp R L Q W ∧ FitS x xs.length v s0 W ∧ W0.heap.size ≤ s0 ∧ (∀ i, i < xs.length → ∀ b, (R i).ownBlock = some b → b < s0) ∧ (∀ i, i < xs.length → ∀ b, (L i).ownBlock = some b → b < s0) ∧ (∀ i, i < xs.length → ∀ b, (Q i).ownBlock = some b → b < s0) ∧ ∀ b, (Value.slice ap xs.length cp).ownBlock = some b → b < s0
section
variable {W0 W W' : World} {base ob : Nat} {oc : Array Value} {x : Off} {vb : Value} {E : Nat → Value}
theorem SeeW.below {k : Nat} {ar al aq ap : Option Addr} {cr cl cq cp : Nat} {R L Q : Nat → Value} (h : SeeW W0 base ob oc x vb E k ar al aq ap cr cl cq cp R L Q W) (hb : Below W.heap.size W W') : SeeW W0 base ob oc x vb E k ar al aq ap cr cl cq cp R L Q W' :=
  ⟨h.vt.below hb, blk_below h.box hb, blk_below h.obx hb, h.bel.trans (hb.mono (Nat.le_of_lt (blk_lt h.box)))⟩
theorem SeeW.own {k : Nat} {ar al aq ap : Option Addr} {cr cl cq cp : Nat} {R L Q : Nat → Value} {row : Option Nat} (h : SeeW W0 base ob oc x vb E k ar al aq ap cr cl cq cp R L Q W) (hg : W.grownBy W' row) (hr : ∀ r, row = some r → W0.heap.size ≤ r ∧ ∃ o : Obj, W.heap[r]? = some o ∧ o.isCells = false) : SeeW W0 base ob oc x vb E k ar al aq ap cr cl cq cp R L Q W' := by
  have hk := kept_row hg
  have far : ∀ {b : Nat} {cs : Array Value} {t : Nat}, W.heap[b]? = some (.cells cs t (0, 0)) → ¬ row = some b := fun hb e => by
    obtain ⟨_, o, h1, h2⟩ := hr _ e
    rw [hb] at h1; cases h1; cases h2
  exact ⟨h.vt.nocell hk (fun b e => (hr b e).2), hk.blk h.box (far h.box), hk.blk h.obx (far h.obx), h.bel.grown hg h.bel.size (fun j hj => (hr j hj).1)⟩
theorem SeeI.ownFrom {B : Nat} (hB : W0.heap.size ≤ B) : OwnFrom B (SeeI W0 base ob oc x vb E) := by
  rintro xs A C row ⟨ar, al, aq, ap, cr, cl, cq, cp, R, L, Q, h⟩ hg hr
  exact ⟨ar, al, aq, ap, cr, cl, cq, cp, R, L, Q, h.own hg (fun r e => ⟨Nat.le_trans hB (hr r e).1, (hr r e).2⟩)⟩
theorem SeeI.fit {pre : List SightV} {v : SightV} {A C : World} (h : SeeI W0 base ob oc x vb E pre A) (hb : Below A.heap.size A C) (hf : FitS x pre.length v A.heap.size C) : SeeI2 W0 base ob oc x vb E pre v C := by
  obtain ⟨ar, al, aq, ap, cr, cl, cq, cp, R, L, Q, h⟩ := h
  exact ⟨ar, al, aq, ap, cr, cl, cq, cp, R, L, Q, A.heap.size, h.below hb, hf, Nat.le_of_lt (blk_lt h.box), fun i hi => h.vt.rowLt hi, fun i hi => h.vt.lanLt hi, fun i hi => h.vt.berLt hi, h.vt.peoLt⟩
end
structure RVt (A W0 u : World) (n0 base ob : Nat) (oc : Array Value) (V : ViewW) (k1 k2 k3 k4 sb : Nat) (sc : Array Value) (vb vr vl vq vp ur ul uq up : Value) (E R L Q : Nat → Value) : Prop where
  sv : SVt W0 u base V k1 k2 k3 k4 sb 78 sc vb vr vl vq vp ur ul uq up E R L Q
  obx : u.heap[ob]? = some (.cells oc 39 (0, 0))
  ko : KeepsOthers A u
  ba : Below n0 A u
  le : n0 ≤ W0.heap.size
  ne : ¬ ob = W0.heap.size
section
variable {A W0 u u' : World} {n0 base ob : Nat} {oc : Array Value} {V : ViewW} {k1 k2 k3 k4 sb : Nat} {sc : Array Value} {vb vr vl vq vp ur ul uq up : Value} {E R L Q : Nat → Value}
theorem RVt.alloc (h : RVt A W0 u n0 base ob oc V k1 k2 k3 k4 sb sc vb vr vl vq vp ur ul uq up E R L Q) (o : Obj) : RVt A W0 (u.alloc o) n0 base ob oc V k1 k2 k3 k4 sb sc vb vr vl vq vp ur ul uq up E R L Q :=
  ⟨h.sv.below (push (Below.refl _ _) _), blk_alloc h.obx _, h.ko.trans (KeepsOthers.alloc _ _), h.ba.alloc (by have h1 := blk_lt h.sv.box; have h2 := h.le; omega) _, h.le, h.ne⟩
theorem RVt.grow {v : Value} {e sz n : Nat} {xs : List Value} (h : RVt A W0 u n0 base ob oc V k1 k2 k3 k4 sb sc vb vr vl vq vp ur ul uq up E R L Q) (ho : u.ownsRow W0.heap.size e sz v n xs) (hg : u.grownBy u' v.ownBlock) (h1 : e ≠ 33) (h2 : e ≠ 78) (h3 : e ≠ 39) :
    (u'.heap[W0.heap.size]? = some (.cells #[vb, ur, ul, uq, up] 33 (0, 0)) ∧ u'.heap[sb]? = some (.cells sc 78 (0, 0)) ∧ Below W0.heap.size W0 u') ∧ u'.heap[ob]? = some (.cells oc 39 (0, 0)) ∧ KeepsOthers A u' ∧ Below n0 A u' :=
  ⟨h.sv.grow ho hg h1 h2, (kept_row hg).blk h.obx (fun q => own_notE ho h.obx h3 _ q rfl), h.ko.trans (KeepsOthers.of_grownBy hg (fun j o ej hj => own_cellsB ho ej hj)), h.ba.grown hg (by have h1 := blk_lt h.sv.box; have h2 := h.le; omega) (fun j hj => Nat.le_trans h.le (ho.lt j hj).1)⟩
theorem RVt.sto (h : RVt A W0 u n0 base ob oc V k1 k2 k3 k4 sb sc vb vr vl vq vp ur ul uq up E R L Q) (i : Nat) (v : Value) :
    VTo (u.setCell ⟨W0.heap.size, i, none⟩ v) base W0.heap.size V k1 k2 k3 k4 vb vr vl vq vp E R L Q ∧ (u.setCell ⟨W0.heap.size, i, none⟩ v).heap[W0.heap.size]? = some (.cells (#[vb, ur, ul, uq, up].setIfInBounds i v) 33 (0, 0)) ∧ (u.setCell ⟨W0.heap.size, i, none⟩ v).heap[sb]? = some (.cells sc 78 (0, 0)) ∧ Below W0.heap.size W0 (u.setCell ⟨W0.heap.size, i, none⟩ v) ∧
    (u.setCell ⟨W0.heap.size, i, none⟩ v).heap[ob]? = some (.cells oc 39 (0, 0)) ∧ KeepsOthers A (u.setCell ⟨W0.heap.size, i, none⟩ v) ∧ Below n0 A (u.setCell ⟨W0.heap.size, i, none⟩ v) := by
  obtain ⟨a1, a2, a3, a4⟩ := h.sv.sto i v
  have hk : Kept u (u.setCell ⟨W0.heap.size, i, none⟩ v) (fun b => b = W0.heap.size) := (Kept.refl u (fun b => b = W0.heap.size)).set (a := ⟨W0.heap.size, i, none⟩) rfl _
  exact ⟨a1, a2, a3, a4, hk.blk h.obx h.ne, h.ko.trans (KeepsOthers.setCell _ _ _), h.ba.setCell (p := ⟨W0.heap.size, i, none⟩) h.le _⟩
end
end Go.Proofs.YtlelckbeoclhbaaGreat
