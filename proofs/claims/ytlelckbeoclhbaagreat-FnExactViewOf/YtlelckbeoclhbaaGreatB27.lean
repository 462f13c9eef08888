/-
  OWN TEXT: RangeFit, InfoMRow, RowsI, KitRes.
-/
import Derived.RangeFuncNested
import Derived.RangeFuncBound
import Derived.RangeFuncCalls
import Derived.RangeFuncLeaves
import Derived.Test.YtlelckbeoclhbaaGreatRows
import Derived.Deep.RegionHeld3
import Derived.Laws.CopyOwn
import Derived.Laws.Tables
import Derived.Test.YtlelckbeoclhbaaGreatB00
import Derived.Test.YtlelckbeoclhbaaGreatB02
import Derived.Test.YtlelckbeoclhbaaGreatB23
import Derived.Test.YtlelckbeoclhbaaGreatB22
import Derived.Test.YtlelckbeoclhbaaGreatB12
set_option maxHeartbeats 12800000
set_option maxRecDepth 100000
namespace Go.Proofs.YtlelckbeoclhbaaGreat
open Go.RowKit
section
variable {F : Fence} {n : Nat} {P : Program}
def SeqFit {α : Type} (F : Fence) (n : Nat) (P : Program) (g : Nat) (lb : Array Value) (encs : α → Array Value) (Kp : World → World → Prop) (Fit : Nat → α → Nat → World → Prop) (N : Nat) (w : World) : Prop :=
  ∀ (l : Nat) (J : List α → World → Prop) (W : World), Below w.heap.size w W → AbidesFrom W.heap.size J →
    (∀ pre x W0 W1, J pre W0 → Below W0.heap.size W0 W1 → J pre W1 → Fit pre.length x W0.heap.size W1 → YieldAt F (n - 1) P l (encs x) W1 fun e W' => e = .returned (.bool true) ∧ J (pre ++ [x]) W' ∧ Kp W1 W') →
    J [] W → CallsIn F n P g (#[.func (.yield l) #[] #[]] ++ lb) W fun e W' => (∃ v, e = .returned v) ∧ ∃ xs : List α, xs.length = N ∧ J xs W'
def fitPost {α : Type} (Kp : World → World → Prop) (I : List α → World → Prop) (xs : List α) (W : World) : Exit → Act → World → Prop
  | .normal, _, W' => KeepsOthers W W' ∧ Kp W W' ∧ I xs W'
  | _, _, _ => False
theorem range_fit {α : Type} {g : Operand} {ps : Array Tmp} {assign body : Code} {Q : Exit → Act → World → Prop} {a : Act} {w : World} (hro : F.round = none) (h1 : 1 ≤ n) {gf : Nat} {lb : Array Value} (hg : a.eval g = .func (.func gf) #[] lb) (hFg : F.fn gf)
    (eg : ∀ args w, (callFunc gf args).run P w = .ok (.enter gf args) w) {encs : α → Array Value} {Kp : World → World → Prop} {Fit : Nat → α → Nat → World → Prop} {N : Nat} {w0 : World} (hseq : SeqFit F (n - 1) P gf lb encs Kp Fit N w0)
    (hKt : ∀ {A B C : World}, Kp A B → Kp B C → Kp A C) (hKb : ∀ (W : World) (l : Nat) (o o' : Obj), w.heap.size ≤ l → W.heap[l]? = some o → o.isCells = false → o.isWalk = false → Kp W (W.putObj l o')) (hb0 : Below w0.heap.size w0 w) (hps : ∀ x, (encs x).size = ps.size)
    (I : List α → World → Prop) (I2 : List α → α → World → Prop) (Ax : List α → α → Act → World → Prop) (hI : OwnFrom w.heap.size I) (hAx : ∀ x a', OwnFrom w.heap.size (fun pre W => Ax pre x a' W)) (h0 : I [] w)
    (hfit : ∀ pre x W0 W1, I pre W0 → Below W0.heap.size W0 W1 → I pre W1 → Fit pre.length x W0.heap.size W1 → I2 pre x W1)
    (hassign : ∀ (l : Nat) (pre : List α) (x : α) (W : World) (K : Act → World → Prop), I2 pre x W → (∀ a' W', Ax pre x a' W' → KeepsOthers W W' → Kp W W' → K a' W') → assign.wpIn (F.inRound l) (n - 1 - 1) P (Exit.then K (fun _ _ _ => False)) { tmps := (ps.zip (encs x)).foldl (fun t (p, v) => t.setIfInBounds p v) a.tmps, defers := [] } W)
    (hbody : ∀ (l : Nat) (pre : List α) (x : α) (a' : Act) (W : World), Ax pre x a' W → body.wpIn (F.inRound l) (n - 1 - 1) P (fitPost Kp I (pre ++ [x]) W) a' W)
    (hdone : ∀ (D : Nat) (xs : List α) (W : World), w.heap.size ≤ D → xs.length = N → I xs W → W.heap[D]? = some (.deferred (some [])) → Q .normal { a with defers := { target := .collected D, args := #[] } :: a.defers } W) :
    (Code.rangeFunc g ps assign body).wpIn F n P Q a w := by
  refine wpIn_rangeFunc fun fn hfn => ?_
  rw [hro]
  obtain ⟨rec, hrec⟩ : ∃ rec : LoopState → Option Code → Loop, rec = fun st pe => { state := st, pending := pe, fn, tmps := a.tmps, params := ps, assign, body, defers := w.heap.size } := ⟨_, rfl⟩
  obtain ⟨V, hV⟩ : ∃ V, (w.alloc (.deferred (some []))).alloc (.loop (rec .ready none)) = V := ⟨_, rfl⟩
  have sV : V.heap.size = w.heap.size + 2 := by rw [← hV]; simp
  have lV : V.heap[w.heap.size + 1]? = some (.loop (rec .ready none)) := by
    have h := World.alloc_heap_new (w.alloc (.deferred (some []))) (.loop (rec .ready none))
    rw [World.size_alloc] at h
    rw [← hV]; exact h
  have dV : V.heap[w.heap.size]? = some (.deferred (some [])) := by rw [← hV]; exact (Below.heap_alloc _ _ _ (by simp)).trans (World.alloc_heap_new w _)
  have iV : I [] V := by rw [← hV]; exact hI.alloc _ (hI.alloc _ h0)
  have bV : Below w0.heap.size w0 V := by rw [← hV]; exact hb0.trans ((((Below.refl _ w).alloc (Nat.le_refl _) _).alloc (by simp) _).mono hb0.size)
  refine ⟨w.heap.size + 1, [{ target := .collected w.heap.size, args := #[] }], V, { target := .fn (.func gf) lb, args := #[.func (.yield (w.heap.size + 1)) #[] #[]] }, V, gf, #[.func (.yield (w.heap.size + 1)) #[] #[]] ++ lb, V, ?_, ?_, ?_, ?_, fun _ => h1, ?_⟩
  · rw [← hV, hrec]; exact run_enterLoop_outer _ _ _ _ _
  · simp only [resolve, hg]
    simp [go_sem]
  · intro f' hf'
    simp [Target.leads] at hf'
    subst hf'
    exact hFg
  · simp [invoke, go_sem, eg]
  · refine (hseq (w.heap.size + 1) (fun pre W => I pre W ∧ W.heap[w.heap.size + 1]? = some (.loop (rec .ready none)) ∧ W.heap[w.heap.size]? = some (.deferred (some []))) V bV (fun s A B row hs hg' hr => ?_) ?_ ⟨iV, lV, dV⟩).mono ?_
    · refine ⟨hI s A B row hs.1 hg' (fun r e => ?_), (grownBy_keeps hg' (fun r e => (hr r e).2) hs.2.1 rfl).trans hs.2.1, (grownBy_keeps hg' (fun r e => (hr r e).2) hs.2.2 rfl).trans hs.2.2⟩
      obtain ⟨hB, o, ho, hw⟩ := hr r e
      exact ⟨by omega, o, ho, Obj.not_cells_of_walk hw⟩
    · rintro pre x W0 W ⟨hi0, hl0, _⟩ hb01 ⟨hi, hl, hk⟩ hf
      have h2 : I2 pre x W := hfit pre x W0 W hi0 hb01 hi hf
      have hy := run_yield (P := P) (args := encs x) hl (by rw [hrec]; exact hps x)
      rw [hrec] at hy
      refine ⟨fn, _, assign, body, hy, roundIn_of_wpIn hfn (hassign _ pre x W _ h2 fun a' V1 hax hko hkp => ?_)⟩
      have hl1 := hko.same _ _ hl rfl
      have hk1 := hko.same _ _ hk rfl
      have hlt1 : w.heap.size + 1 < V1.heap.size := (Array.getElem?_eq_some_iff.1 hl1).1
      refine ⟨_, run_beginRound hl1 (by rw [hrec]), ?_⟩
      have hl2 : (V1.putObj (w.heap.size + 1) (.loop { rec .ready none with state := .busy })).heap[w.heap.size + 1]? = some (.loop { rec .ready none with state := .busy }) := World.putObj_heap_same hlt1
      have hk2 : (V1.putObj (w.heap.size + 1) (.loop { rec .ready none with state := .busy })).heap[w.heap.size]? = some (.deferred (some [])) := (World.putObj_heap_other (by omega)).trans hk1
      refine wpIn_mono (hbody _ pre x a' _ ((hAx x a').putObj _ hax (by omega) hl1 rfl)) ?_
      rintro e a3 W3 hp
      cases e with
      | normal =>
        obtain ⟨hk3, hkp3, hi3⟩ := hp
        have hl3 := hk3.same _ _ hl2 rfl
        have hr := run_endRound (P := P) none hl3
        refine ⟨_, _, hr, rfl, ⟨hI.putObj _ hi3 (by omega) hl3 rfl, ?_, ?_⟩, hKt (hKt (hKt hkp (hKb _ _ _ _ (by omega) hl1 rfl rfl)) hkp3) (hKb _ _ _ _ (by omega) hl3 rfl rfl)⟩
        · rw [hrec] at hl3 ⊢
          exact World.putObj_heap_same (Array.getElem?_eq_some_iff.1 hl3).1
        · exact (World.putObj_heap_other (by omega)).trans (hk3.same _ _ hk2 rfl)
      | ret => exact hp.elim
      | exit id => exact hp.elim
      | goto t => exact hp.elim
      | panic ch => exact hp.elim
      | outgrown => exact hp.elim
    · rintro e W2 ⟨⟨v, rfl⟩, xs, hS, hi, hl, hk⟩
      have hr := run_endLoop (P := P) hl (by rw [hrec]; simp)
      rw [hrec] at hr
      exact ⟨none, _, hr, hdone _ xs _ (Nat.le_refl _) hS (hI.putObj _ hi (by omega) hl rfl) ((World.putObj_heap_other (by omega)).trans hk)⟩
end
end Go.Proofs.YtlelckbeoclhbaaGreat

namespace Go.Proofs.YtlelckbeoclhbaaGreat
open Go.RowKit
theorem Tryz.infoRow : (Tryz.prog.info? 116).map (fun i => (i.zero, i.size, i.bytes)) = some (some (.agg #[.int .i64 0, .string ⟨#[]⟩, .int .i64 0, .int .i64 0, .int .i64 0]), 5, 48) := by kernel_rfl
end Go.Proofs.YtlelckbeoclhbaaGreat

namespace Go.Proofs.YtlelckbeoclhbaaGreat
open Go.RowKit Classical
theorem lastLn_no {S : Nat → Stay} {q : Int} {n : Nat} (h : ∀ j, j < n → (S j).who ≠ q) : lastLn S q n = -1 := by
  induction n with
  | zero => rfl
  | succ n ih => rw [lastLn, if_neg (h n (by omega)), ih (fun j hj => h j (by omega))]
theorem lastLn_is {S : Nat → Stay} {q : Int} {n i : Nat} (hi : i < n) (he : (S i).who = q) (h : ∀ j, j < n → (S j).who = q → j = i) : lastLn S q n = (S i).ln := by
  induction n with
  | zero => omega
  | succ n ih =>
    by_cases c : (S n).who = q
    · rw [lastLn, if_pos c, h n (by omega) c]
    · rw [lastLn, if_neg c]
      exact ih (by have : i ≠ n := fun e => c (e ▸ he); omega) (fun j hj => h j (by omega))
theorem lastCab_no {S : Nat → Room} {q : Int} {n : Nat} (h : ∀ j, j < n → (S j).who ≠ q) : lastCab S q n = -1 := by
  induction n with
  | zero => rfl
  | succ n ih => rw [lastCab, if_neg (h n (by omega)), ih (fun j hj => h j (by omega))]
theorem lastCab_is {S : Nat → Room} {q : Int} {n i : Nat} (hi : i < n) (he : (S i).who = q) (h : ∀ j, j < n → (S j).who = q → j = i) : lastCab S q n = (S i).cab := by
  induction n with
  | zero => omega
  | succ n ih =>
    by_cases c : (S n).who = q
    · rw [lastCab, if_pos c, h n (by omega) c]
    · rw [lastCab, if_neg c]
      exact ih (by have : i ≠ n := fun e => c (e ▸ he); omega) (fun j hj => h j (by omega))
theorem lane_ix {s : Sail} {l : Load} (h : LoadOk s l) (q : Int) : lastLn l.st q l.stn = if ixOf (whoS l.st) q l.stn < l.stn then (l.st (ixOf (whoS l.st) q l.stn)).ln else -1 := by
  have u1 : ∀ i, i < l.stn → ¬ Has (whoS l.st) i (whoS l.st i) := fun i hi => (h.1.2.2.1 i hi).2.2.2.2
  by_cases c : ixOf (whoS l.st) q l.stn < l.stn
  · rw [if_pos c]; exact lastLn_is c (ixOf_at (whoS l.st) q _ c) (fun j hj e => (ixOf_one u1 hj e).symm)
  · rw [if_neg c]; exact lastLn_no (fun j hj e => c ((has_iff (whoS l.st) _ _).1 ⟨j, hj, e⟩))
theorem cab_ix {s : Sail} {l : Load} (h : LoadOk s l) (q : Int) : lastCab l.ro q l.ron = if ixOf (whoR l.ro) q l.ron < l.ron then (l.ro (ixOf (whoR l.ro) q l.ron)).cab else -1 := by
  have u1 : ∀ i, i < l.ron → ¬ Has (whoR l.ro) i (whoR l.ro i) := fun i hi => (h.2.1.2.2.1 i hi).1.2.1
  by_cases c : ixOf (whoR l.ro) q l.ron < l.ron
  · rw [if_pos c]; exact lastCab_is c (ixOf_at (whoR l.ro) q _ c) (fun j hj e => (ixOf_one u1 hj e).symm)
  · rw [if_neg c]; exact lastCab_no (fun j hj e => c ((has_iff (whoR l.ro) _ _).1 ⟨j, hj, e⟩))
theorem rowsL_on (l : Load) (S : Nat → Book) (z : Int) (n : Nat) : (rowsL l S z n).length = (onL (fun i => OnB (S i) z) n).length ∧ ∀ j, j < (onL (fun i => OnB (S i) z) n).length → nthR (rowsL l S z n) j = rowOf l (S (onI (fun i => OnB (S i) z) n j)) := by
  induction n with
  | zero => exact ⟨rfl, fun j hj => by simp [onL] at hj⟩
  | succ n ih =>
    obtain ⟨e1, e2⟩ := ih
    by_cases h : OnB (S n) z
    · have hq : OnZ (S n) z := h
      rw [rowsL_yes hq, onL_yes (P := fun i => OnB (S i) z) h, List.length_append, List.length_append, e1]
      refine ⟨rfl, fun j hj => ?_⟩
      by_cases e : j = (onL (fun i => OnB (S i) z) n).length
      · subst e
        rw [onI_last (fun i => OnB (S i) z) h]
        unfold nthR
        rw [← e1]; simp
      · have hj2 : j < (onL (fun i => OnB (S i) z) n).length := by simp at hj; omega
        rw [onI_old _ hj2, ← e2 j hj2]
        unfold nthR
        rw [List.getD_eq_getElem?_getD, List.getD_eq_getElem?_getD, List.getElem?_append_left (by omega)]
    · have hq : ¬ OnZ (S n) z := h
      rw [rowsL_no hq, onL_no (P := fun i => OnB (S i) z) h]
      exact ⟨e1, fun j hj => by rw [onI_old _ hj, ← e2 j hj]⟩
theorem rowLn_set {w : World} {g t : Nat} {u0 u1 u2 u3 u4 : Value} (h : w.heap[g]? = some (.cells #[u0, u1, u2, u3, u4] t (0, 0))) (v : Value) : (w.setCell ⟨g, 3, none⟩ v).heap[g]? = some (.cells #[u0, u1, u2, v, u4] t (0, 0)) := by simpa using blk_set h 3 v
theorem rowCab_set {w : World} {g t : Nat} {u0 u1 u2 u3 u4 : Value} (h : w.heap[g]? = some (.cells #[u0, u1, u2, u3, u4] t (0, 0))) (v : Value) : (w.setCell ⟨g, 4, none⟩ v).heap[g]? = some (.cells #[u0, u1, u2, u3, v] t (0, 0)) := by simpa using blk_set h 4 v
theorem rowsOf_raw (x : Off) (asa ald abk : Option Addr) (csa cld cbk k : Nat) (w : World) (hs : Off.Short x 1048576) (hsa : SailsAt w asa x.san x.sa) (hld : LoadsAt w ald x.ldn x.ld) (hbk : BooksAt w abk x.bkn x.bk) (hcb : x.bkn ≤ 30) (hlt : k < x.san) (hm1 : x.ldn = x.san) (hok : LoadOk (x.sa k) (x.ld k)) :
    Calls Tryz.prog 69 #[.agg #[.slice asa x.san csa, .slice ald x.ldn cld, .slice abk x.bkn cbk], .int .i64 k] w fun e w' => (∃ v, e = .returned v ∧ w'.ownsRow w.heap.size 116 5 v (rowsL (x.ld k) x.bk (x.sa k).id x.bkn).length (rowList (nthR (rowsL (x.ld k) x.bk (x.sa k).id x.bkn)) (rowsL (x.ld k) x.bk (x.sa k).id x.bkn).length)) ∧ Below w.heap.size w w' := by
  obtain ⟨j0, ji, jz0, jz1, jz2⟩ := info_parts Tryz.infoRow
  have HSH : Hid (Off.Short x 1048576) := hs
  obtain ⟨sb, so, _, _, _, _, rfl, f0, _⟩ := hsa k hlt
  obtain ⟨zi, hzi⟩ : ∃ z, z = (x.sa k).id := ⟨_, rfl⟩
  rw [← hzi] at f0 ⊢
  have lsb : sb < w.heap.size := World.block_lt_of_cell? w _ f0
  obtain ⟨D, hD, hJ⟩ := hld
  obtain ⟨lb, lo, rfl, hc⟩ := hD k (by omega)
  obtain ⟨l, hld⟩ : ∃ l, l = x.ld k := ⟨_, rfl⟩
  obtain ⟨ast, cst, aro, cro, ase, cse, eC, hst, sst, hro, sro, hse, sse⟩ := hJ k (by omega)
  have hlh := hs.2.1.2 k (by omega)
  rw [← hld] at eC hst sst hro sro hse sse hlh hok ⊢
  have n2 : l.stn ≤ 1048576 := hlh.1
  have n3 : l.ron ≤ 1048576 := hlh.2.1
  have llb : lb < w.heap.size := World.block_lt_of_cell? w _ (hc 0 (by decide))
  have HST : Hid (StaysAt w ast l.stn l.st) := hst
  have HRO : Hid (RoomsAt w aro l.ron l.ro) := hro
  have HOK : Hid (LoadOk (x.sa k) l) := hok
  obtain ⟨C, hC, hI⟩ := hbk
  have HC : Hid (RecsAt w abk x.bkn 13 C) := hC
  have HI : Hid (∀ k, k < x.bkn → Book.Is w (C k) (x.bk k)) := hI
  have HF0 : Hid (w.cell? ⟨sb, so + k * 8, none⟩ = some (.int .i64 zi)) := f0
  have d0 : ∀ o, (w.alloc o).cell? ⟨lb, lo + k * 3, none⟩ = some (.slice ast l.stn cst) := fun o => ((push (Below.refl _ w) o).cell (p := ⟨lb, lo + k * 3, none⟩) llb).trans (by have := hc 0 (by decide); rw [eC] at this; exact this)
  have d1 : ∀ o, (w.alloc o).cell? ⟨lb, lo + k * 3 + 1, none⟩ = some (.slice aro l.ron cro) := fun o => ((push (Below.refl _ w) o).cell (p := ⟨lb, lo + k * 3 + 1, none⟩) llb).trans (by have := hc 1 (by decide); rw [eC] at this; exact this)
  have d2 : ∀ o, (w.alloc o).cell? ⟨lb, lo + k * 3 + 2, none⟩ = some (.slice ase l.sen cse) := fun o => ((push (Below.refl _ w) o).cell (p := ⟨lb, lo + k * 3 + 2, none⟩) llb).trans (by have := hc 2 (by decide); rw [eC] at this; exact this)
  obtain ⟨P, hP⟩ : ∃ P : Nat → Prop, P = fun i => OnB (x.bk i) zi := ⟨_, rfl⟩
  obtain ⟨m, hmd⟩ : ∃ m, m = (onL P x.bkn).length := ⟨_, rfl⟩
  have hm30 : m ≤ 30 := by rw [hmd]; exact Nat.le_trans (onL_le P _) hcb
  have HMD : Hid (m = (onL P x.bkn).length) := hmd
  have HRES : Hid ((rowsL l x.bk zi x.bkn).length = m ∧ ∀ j, j < m → nthR (rowsL l x.bk zi x.bkn) j = rowOf l (x.bk (onI P x.bkn j))) := by
    show (rowsL l x.bk zi x.bkn).length = m ∧ ∀ j, j < m → nthR (rowsL l x.bk zi x.bkn) j = rowOf l (x.bk (onI P x.bkn j))
    rw [hmd, hP]; exact rowsL_on l x.bk zi x.bkn
  obtain ⟨B, hBd⟩ : ∃ B : Nat → Book, B = fun j => x.bk (onI P x.bkn j) := ⟨_, rfl⟩
  obtain ⟨C', hCd⟩ : ∃ C' : Nat → List Value, C' = fun j => C (onI P x.bkn j) := ⟨_, rfl⟩
  have HI2 : Hid (∀ j, j < m → Book.Is w (C' j) (B j)) := fun j hj => by
    rw [hCd, hBd]
    exact HI.out _ (onI_is P x.bkn j (by rw [← HMD.out]; exact hj)).1
  have HR2 : Hid (∀ j, j < m → nthR (rowsL l x.bk zi x.bkn) j = rowOf l (B j)) := fun j hj => by rw [hBd]; exact HRES.out.2 j hj
  have HC1 : Hid (∀ w', Below w.heap.size w w' → Calls Tryz.prog 65 #[.slice abk x.bkn cbk, .int .i64 zi] w' fun e w2 => (∃ ao c, e = .returned (.slice ao m c) ∧ RecsAt w2 ao m 13 C') ∧ Below w'.heap.size w' w2) := fun w' h =>
    (bookingsOn_any abk x.bkn cbk x.bk C zi w' HSH.out.2.2.1 HSH.out.2.2.2 (HC.out.below h) (fun j hj => (HI.out j hj).below h)).mono fun _ _ ⟨⟨ao, c, a, _, b⟩, d⟩ => by
      rw [HMD.out, hCd, hP]
      exact ⟨⟨ao, c, a, RecsAt.of_own b⟩, d⟩
  have k0 : (0 : Int) ≤ (k : Int) := by omega
  have k1 : (k : Int) < (x.ldn : Int) := by omega
  have k2 : (k : Int) < (x.san : Int) := by omega
  clear hm1 hsa hD hJ hc eC hst sst hro sro hse sse hlh hC hI f0 hmd hBd hCd hP hs hok hzi hld HC HI HMD
  have hbV : Below w.heap.size w ((w.alloc (.cells #[.slice (some ⟨sb, so, none⟩) x.san csa, .slice (some ⟨lb, lo, none⟩) x.ldn cld, .slice abk x.bkn cbk] 39)).alloc (.cells #[.slice ast l.stn cst, .slice aro l.ron cro, .slice ase l.sen cse] 62)) := push (push (Below.refl _ _) _) _
  have bO : ((w.alloc (.cells #[.slice (some ⟨sb, so, none⟩) x.san csa, .slice (some ⟨lb, lo, none⟩) x.ldn cld, .slice abk x.bkn cbk] 39)).alloc (.cells #[.slice ast l.stn cst, .slice aro l.ron cro, .slice ase l.sen cse] 62)).heap[w.heap.size]? = some (.cells #[.slice (some ⟨sb, so, none⟩) x.san csa, .slice (some ⟨lb, lo, none⟩) x.ldn cld, .slice abk x.bkn cbk] 39 (0, 0)) := blk_alloc (heap_alloc_new w _) _
  have bL : ((w.alloc (.cells #[.slice (some ⟨sb, so, none⟩) x.san csa, .slice (some ⟨lb, lo, none⟩) x.ldn cld, .slice abk x.bkn cbk] 39)).alloc (.cells #[.slice ast l.stn cst, .slice aro l.ron cro, .slice ase l.sen cse] 62)).heap[w.heap.size + 1]? = some (.cells #[.slice ast l.stn cst, .slice aro l.ron cro, .slice ase l.sen cse] 62 (0, 0)) := by simpa using heap_alloc_new (w.alloc _) _
  go_enter Tryz.func69, Tryz.ntmps69
  go_upto_region 3 with fail
  generalize (w.alloc (.cells #[.slice (some ⟨sb, so, none⟩) x.san csa, .slice (some ⟨lb, lo, none⟩) x.ldn cld, .slice abk x.bkn cbk] 39)).alloc (.cells #[.slice ast l.stn cst, .slice aro l.ron cro, .slice ase l.sen cse] 62) = X at hbV bO bL ⊢
  clear d0 d1 d2
  have BW : Hid (∀ w', Below X.heap.size X w' → Below w.heap.size w w') := fun w' h => after hbV h
  have KS : Hid (∀ w', Below X.heap.size X w' → (w'.cell? ⟨w.heap.size, 0, none⟩ = some (.slice (some ⟨sb, so, none⟩) x.san csa) ∧ w'.cell? ⟨w.heap.size, 2, none⟩ = some (.slice abk x.bkn cbk) ∧ w'.cell? ⟨sb, so + k * 8, none⟩ = some (.int .i64 zi))) := fun w' h => by
    have g2 := blk_below bO h
    exact ⟨blk_cell g2 0 _ rfl, blk_cell g2 2 _ rfl, ((after hbV h).cell (p := ⟨sb, so + k * 8, none⟩) lsb).trans HF0.out⟩
  go_cut [25, 26, 27] (fun v nn i wx => ∃ ao c, v = .slice ao m c ∧ nn = .int .i64 m ∧ i = .int .i64 0 ∧ RecsAt wx ao m 13 C' ∧ Below X.heap.size X wx)
  case first =>
    go_region_held3 (fun w' => w'.cell? ⟨w.heap.size, 0, none⟩ = some (.slice (some ⟨sb, so, none⟩) x.san csa) ∧ w'.cell? ⟨w.heap.size, 2, none⟩ = some (.slice abk x.bkn cbk) ∧ w'.cell? ⟨sb, so + k * 8, none⟩ = some (.int .i64 zi))
      ((refine KS.out _ ?_; exact (by repeat (first | exact Below.refl _ _ | refine Below.drew ?_ | refine after ?_ hb4))))
      (first | (go_at_call 65; refine Calls.mono (HC1.out _ (BW.out _ (by repeat (first | exact Below.refl _ _ | refine Below.drew ?_ | refine after ?_ hb4)))) ?_; rintro e w4 ⟨⟨ao4, c4, rfl, ho4⟩, hb4⟩))
    all_goals
      go_wp2
      go_meet
      exact ⟨ao4, c4, rfl, rfl, rfl, RecsAt.below (w := w4) ho4 (by repeat (first | exact Below.refl _ _ | refine Below.drew ?_)), (by repeat (first | exact Below.refl _ _ | refine Below.drew ?_ | refine after ?_ hb4))⟩
  case rest =>
  obtain ⟨ao4, c4, rfl, rfl, rfl, hrec, hbc⟩ := hcut
  have HRC : Hid (RecsAt wc ao4 m 13 C') := hrec
  have hb1 := after hbV hbc
  have bL1 := blk_below bL hbc
  have HBL : Hid (wc.heap[w.heap.size + 1]? = some (.cells #[.slice ast l.stn cst, .slice aro l.ron cro, .slice ase l.sen cse] 62 (0, 0))) := bL1
  clear hrec bO bL hbV hbc KS BW HC1 HF0 bL1 k0 k1 k2
  obtain ⟨R, hR⟩ : ∃ R : Nat → MRow, R = fun j => rowOf l (B j) := ⟨_, rfl⟩
  have HR : Hid (∀ j, R j = rowOf l (B j)) := fun j => by rw [hR]
  clear hR
  go_wp2
  go_loopw [5, 8, 9, 10, 11, 27] (fun v _ _ _ _ q wr => ∃ i : Nat, i ≤ m ∧ q = .int .i64 i ∧ wr.ownsRow wc.heap.size 116 5 v i (rowList R i) ∧ Below wc.heap.size wc wr) (fun _ _ _ _ _ q _ => m - (intOf q).toNat)
  case atStart => exact ⟨0, Nat.zero_le _, rfl, ⟨rfl, .inl ⟨rfl, rfl⟩⟩, Below.refl _ _⟩
  case round =>
    obtain ⟨i, hi, rfl, hown, hbel⟩ := hrel
    have hbw := after hb1 hbel
    by_cases hlt2 : i < m
    · obtain ⟨bb, bo, rfl, hc⟩ := HRC.out i hlt2
      obtain ⟨b, hbd⟩ : ∃ b, b = B i := ⟨_, rfl⟩
      obtain ⟨alg, clg, eC, _, _⟩ := HI2.out i hlt2
      rw [← hbd] at eC
      have HBB : Hid (b = B i) := hbd
      have lbb : bb < wc.heap.size := World.block_lt_of_cell? wc _ (hc 0 (by decide))
      have c0 : wr.cell? ⟨bb, bo + i * 13, none⟩ = some (.int .i64 b.name) := (hbel.cell (p := ⟨bb, bo + i * 13, none⟩) lbb).trans (by have := hc 0 (by decide); rw [eC] at this; exact this)
      have c1 : wr.cell? ⟨bb, bo + i * 13 + 1, none⟩ = some (.int .i64 b.who) := (hbel.cell (p := ⟨bb, bo + i * 13 + 1, none⟩) lbb).trans (by have := hc 1 (by decide); rw [eC] at this; exact this)
      have c2 : wr.cell? ⟨bb, bo + i * 13 + 2, none⟩ = some (.string b.own) := (hbel.cell (p := ⟨bb, bo + i * 13 + 2, none⟩) lbb).trans (by have := hc 2 (by decide); rw [eC] at this; exact this)
      have c3 : wr.cell? ⟨bb, bo + i * 13 + 3, none⟩ = some (.slice alg b.lgn clg) := (hbel.cell (p := ⟨bb, bo + i * 13 + 3, none⟩) lbb).trans (by have := hc 3 (by decide); rw [eC] at this; exact this)
      have c4 : wr.cell? ⟨bb, bo + i * 13 + 4, none⟩ = some (.int .i64 b.pe) := (hbel.cell (p := ⟨bb, bo + i * 13 + 4, none⟩) lbb).trans (by have := hc 4 (by decide); rw [eC] at this; exact this)
      have c5 : wr.cell? ⟨bb, bo + i * 13 + 5, none⟩ = some (.int .i64 b.len) := (hbel.cell (p := ⟨bb, bo + i * 13 + 5, none⟩) lbb).trans (by have := hc 5 (by decide); rw [eC] at this; exact this)
      have c6 : wr.cell? ⟨bb, bo + i * 13 + 6, none⟩ = some (.int .i64 b.hei) := (hbel.cell (p := ⟨bb, bo + i * 13 + 6, none⟩) lbb).trans (by have := hc 6 (by decide); rw [eC] at this; exact this)
      have c7 : wr.cell? ⟨bb, bo + i * 13 + 7, none⟩ = some (.int .i64 b.cl) := (hbel.cell (p := ⟨bb, bo + i * 13 + 7, none⟩) lbb).trans (by have := hc 7 (by decide); rw [eC] at this; exact this)
      have c8 : wr.cell? ⟨bb, bo + i * 13 + 8, none⟩ = some (.bool b.all) := (hbel.cell (p := ⟨bb, bo + i * 13 + 8, none⟩) lbb).trans (by have := hc 8 (by decide); rw [eC] at this; exact this)
      have c9 : wr.cell? ⟨bb, bo + i * 13 + 9, none⟩ = some (.int .i64 b.be) := (hbel.cell (p := ⟨bb, bo + i * 13 + 9, none⟩) lbb).trans (by have := hc 9 (by decide); rw [eC] at this; exact this)
      have c10 : wr.cell? ⟨bb, bo + i * 13 + 10, none⟩ = some (.int .i64 b.state) := (hbel.cell (p := ⟨bb, bo + i * 13 + 10, none⟩) lbb).trans (by have := hc 10 (by decide); rw [eC] at this; exact this)
      have c11 : wr.cell? ⟨bb, bo + i * 13 + 11, none⟩ = some (.int .i64 b.unt) := (hbel.cell (p := ⟨bb, bo + i * 13 + 11, none⟩) lbb).trans (by have := hc 11 (by decide); rw [eC] at this; exact this)
      have c12 : wr.cell? ⟨bb, bo + i * 13 + 12, none⟩ = some (.int .i64 b.price) := (hbel.cell (p := ⟨bb, bo + i * 13 + 12, none⟩) lbb).trans (by have := hc 12 (by decide); rw [eC] at this; exact this)
      clear hc eC hbd
      have bB : ((wr.alloc (.cells #[.int .i64 b.name, .int .i64 b.who, .string b.own, .slice alg b.lgn clg, .int .i64 b.pe, .int .i64 b.len, .int .i64 b.hei, .int .i64 b.cl, .bool b.all, .int .i64 b.be, .int .i64 b.state, .int .i64 b.unt, .int .i64 b.price] 72)).alloc (.cells #[.int .i64 b.name, .string b.own, .int .i64 b.pe, .int .i64 (-1), .int .i64 (-1)] 116)).heap[wr.heap.size]? = some (.cells #[.int .i64 b.name, .int .i64 b.who, .string b.own, .slice alg b.lgn clg, .int .i64 b.pe, .int .i64 b.len, .int .i64 b.hei, .int .i64 b.cl, .bool b.all, .int .i64 b.be, .int .i64 b.state, .int .i64 b.unt, .int .i64 b.price] 72 (0, 0)) := blk_alloc (heap_alloc_new wr _) _
      have bR : ((wr.alloc (.cells #[.int .i64 b.name, .int .i64 b.who, .string b.own, .slice alg b.lgn clg, .int .i64 b.pe, .int .i64 b.len, .int .i64 b.hei, .int .i64 b.cl, .bool b.all, .int .i64 b.be, .int .i64 b.state, .int .i64 b.unt, .int .i64 b.price] 72)).alloc (.cells #[.int .i64 b.name, .string b.own, .int .i64 b.pe, .int .i64 (-1), .int .i64 (-1)] 116)).heap[wr.heap.size + 1]? = some (.cells #[.int .i64 b.name, .string b.own, .int .i64 b.pe, .int .i64 (-1), .int .i64 (-1)] 116 (0, 0)) := by simpa using heap_alloc_new (wr.alloc _) _
      have hbq : Below wc.heap.size wc ((wr.alloc (.cells #[.int .i64 b.name, .int .i64 b.who, .string b.own, .slice alg b.lgn clg, .int .i64 b.pe, .int .i64 b.len, .int .i64 b.hei, .int .i64 b.cl, .bool b.all, .int .i64 b.be, .int .i64 b.state, .int .i64 b.unt, .int .i64 b.price] 72)).alloc (.cells #[.int .i64 b.name, .string b.own, .int .i64 b.pe, .int .i64 (-1), .int .i64 (-1)] 116)) := push (push hbel _) _
      have hown1 := own_below (push (push (Below.refl _ wr) (.cells #[.int .i64 b.name, .int .i64 b.who, .string b.own, .slice alg b.lgn clg, .int .i64 b.pe, .int .i64 b.len, .int .i64 b.hei, .int .i64 b.cl, .bool b.all, .int .i64 b.be, .int .i64 b.state, .int .i64 b.unt, .int .i64 b.price] 72)) (.cells #[.int .i64 b.name, .string b.own, .int .i64 b.pe, .int .i64 (-1), .int .i64 (-1)] 116)) hown
      have HVB : Hid (∀ g, u5.ownBlock = some g → g < wr.heap.size) := fun g hg => (hown.lt g hg).2
      have l0' : ((wr.alloc (.cells #[.int .i64 b.name, .int .i64 b.who, .string b.own, .slice alg b.lgn clg, .int .i64 b.pe, .int .i64 b.len, .int .i64 b.hei, .int .i64 b.cl, .bool b.all, .int .i64 b.be, .int .i64 b.state, .int .i64 b.unt, .int .i64 b.price] 72)).alloc (.cells #[.int .i64 b.name, .string b.own, .int .i64 b.pe, .int .i64 (-1), .int .i64 (-1)] 116)).cell? ⟨w.heap.size + 1, 0, none⟩ = some (.slice ast l.stn cst) := blk_cell (blk_below HBL.out hbq) 0 _ rfl
      have y1 := blk_cell bB 1 _ rfl
      have hwr : wc.heap.size ≤ wr.heap.size := hbel.size
      go_wp2_with fail
      generalize hrb : wr.heap.size = rb at bB bR HVB y1 hwr ⊢
      generalize (wr.alloc (.cells #[.int .i64 b.name, .int .i64 b.who, .string b.own, .slice alg b.lgn clg, .int .i64 b.pe, .int .i64 b.len, .int .i64 b.hei, .int .i64 b.cl, .bool b.all, .int .i64 b.be, .int .i64 b.state, .int .i64 b.unt, .int .i64 b.price] 72)).alloc (.cells #[.int .i64 b.name, .string b.own, .int .i64 b.pe, .int .i64 (-1), .int .i64 (-1)] 116) = R0 at bB bR hbq hown1 l0' y1 ⊢
      clear hrb c0 c1 c2 c3 c4 c5 c6 c7 c8 c9 c10 c11 c12 hbel hbw hown l0' y1
      refine (stayOf_any ast l.stn cst l.st b.who _ n2 (HST.out.below (after hb1 hbq))).mono ?_
      rintro e Y1 ⟨rfl, hby⟩
      have bB1 := blk_below bB hby
      have bR1 := blk_below bR hby
      have kp1 : Kept R0 Y1 (fun g => g = rb + 1) := Kept.of_below hby
      have hq1 := after hbq hby
      clear bB bR hby hbq
      have hsz : wc.heap.size < rb + 1 := by omega
      have HLN : Hid (lastLn l.st b.who l.stn = if ixOf (whoS l.st) b.who l.stn < l.stn then (l.st (ixOf (whoS l.st) b.who l.stn)).ln else -1) := lane_ix HOK.out b.who
      have HCN : Hid (lastCab l.ro b.who l.ron = if ixOf (whoR l.ro) b.who l.ron < l.ron then (l.ro (ixOf (whoR l.ro) b.who l.ron)).cab else -1) := cab_ix HOK.out b.who
      obtain ⟨ln, hln⟩ : ∃ x, x = lastLn l.st b.who l.stn := ⟨_, rfl⟩
      obtain ⟨cn, hcn⟩ : ∃ x, x = lastCab l.ro b.who l.ron := ⟨_, rfl⟩
      rw [← hln] at HLN
      rw [← hcn] at HCN
      have HRI : Hid (R i = ⟨b.name, b.own, b.pe, ln, cn⟩) := by show R i = _; rw [HR.out, ← HBB.out]; unfold rowOf; rw [hln, hcn]
      clear hln hcn
      have hne : ¬ (w.heap.size + 1 = rb + 1) := by have := blk_lt HBL.out; omega
      have hne2 : ¬ (rb = rb + 1) := by omega
      have hle : wc.heap.size ≤ rb + 1 := by omega
      by_cases hf1 : ixOf (whoS l.st) b.who l.stn < l.stn
      · skip
        rw [ixAns_pos hf1]
        have HV1 : Hid (ln = (l.st (ixOf (whoS l.st) b.who l.stn)).ln) := by have := HLN.out; rw [if_pos hf1] at this; exact this
        obtain ⟨q1, hq1'⟩ : ∃ q, q = ixOf (whoS l.st) b.who l.stn := ⟨_, rfl⟩
        rw [← hq1'] at hf1 HV1 ⊢
        clear hq1'
        obtain ⟨tb, to', rfl, g0, g1, _, _⟩ := HST.out q1 hf1
        have ltb := World.block_lt_of_cell? w _ g0
        have s1 : Y1.cell? ⟨tb, to' + q1 * 4 + 1, none⟩ = some (.int .i64 ln) := ((after hb1 hq1).cell (p := ⟨tb, to' + q1 * 4 + 1, none⟩) ltb).trans (by rw [HV1.out]; exact g1)
        have d0 : decide (0 ≤ (q1 : Int)) = true := by simp
        have i1 : (0 : Int) ≤ (q1 : Int) := by omega
        have i2 : (q1 : Int) < (l.stn : Int) := by omega
        have l0' := blk_cell (blk_below HBL.out hq1) 0 _ rfl
        have r3 := blk_cell bR1 3 _ rfl
        have z3 := blk_free bR1 3
        have bRn := rowLn_set bR1 (.int .i64 ln)
        have bBn := blk_set_other bB1 3 (.int .i64 ln) hne2
        have kpn := kp1.set (a := ⟨rb + 1, 3, none⟩) rfl (.int .i64 ln)
        have hqn : Below wc.heap.size wc (Y1.setCell ⟨rb + 1, 3, none⟩ (.int .i64 ln)) := hq1.setCell (p := ⟨rb + 1, 3, none⟩) hle _
        have y1 := blk_cell bBn 1 _ rfl
        have m1' := blk_cell (blk_below HBL.out hqn) 1 _ rfl
        go_wp2_with fail
        generalize (Y1.setCell ⟨rb + 1, 3, none⟩ (.int .i64 ln)) = Z1 at bRn bBn kpn hqn y1 m1' ⊢
        clear bR1 bB1 kp1 hq1 y1 m1' s1 d0 i1 i2 l0' r3 z3 g0 g1
        refine (roomOf_any aro l.ron cro l.ro b.who _ n3 (HRO.out.below (after hb1 hqn))).mono ?_
        rintro e Y2 ⟨rfl, hby⟩
        have bB1 := blk_below bBn hby
        have bR1 := blk_below bRn hby
        have kp1 : Kept R0 Y2 (fun g => g = rb + 1) := kpn.trans (Kept.of_below hby)
        have hq1 := after hqn hby
        clear bBn bRn kpn hqn hby
        by_cases hf2 : ixOf (whoR l.ro) b.who l.ron < l.ron
        · skip
          rw [ixAns_pos hf2]
          have HV2 : Hid (cn = (l.ro (ixOf (whoR l.ro) b.who l.ron)).cab) := by have := HCN.out; rw [if_pos hf2] at this; exact this
          obtain ⟨q2, hq2'⟩ : ∃ q, q = ixOf (whoR l.ro) b.who l.ron := ⟨_, rfl⟩
          rw [← hq2'] at hf2 HV2 ⊢
          clear hq2'
          obtain ⟨tb, to', rfl, g0, g1, _, _⟩ := HRO.out q2 hf2
          have ltb := World.block_lt_of_cell? w _ g0
          have s1 : Y2.cell? ⟨tb, to' + q2 * 4 + 1, none⟩ = some (.int .i64 cn) := ((after hb1 hq1).cell (p := ⟨tb, to' + q2 * 4 + 1, none⟩) ltb).trans (by rw [HV2.out]; exact g1)
          have d0 : decide (0 ≤ (q2 : Int)) = true := by simp
          have i1 : (0 : Int) ≤ (q2 : Int) := by omega
          have i2 : (q2 : Int) < (l.ron : Int) := by omega
          have l1' := blk_cell (blk_below HBL.out hq1) 1 _ rfl
          have r3 := blk_cell bR1 4 _ rfl
          have z3 := blk_free bR1 4
          have bRn := rowCab_set bR1 (.int .i64 cn)
          have bBn := blk_set_other bB1 4 (.int .i64 cn) hne2
          have kpn := kp1.set (a := ⟨rb + 1, 4, none⟩) rfl (.int .i64 cn)
          have hqn : Below wc.heap.size wc (Y2.setCell ⟨rb + 1, 4, none⟩ (.int .i64 cn)) := hq1.setCell (p := ⟨rb + 1, 4, none⟩) hle _
          have t0 := blk_cell bRn 0 _ rfl
          have t1 := blk_cell bRn 1 _ rfl
          have t2 := blk_cell bRn 2 _ rfl
          have t3 := blk_cell bRn 3 _ rfl
          have t4 := blk_cell bRn 4 _ rfl
          have hown4 := kpn.own hown1 (fun g hg e => by have := HVB.out g hg; have e : g = rb + 1 := e; omega)
          have hsz5 : wc.heap.size ≤ ((Y2.setCell ⟨rb + 1, 4, none⟩ (.int .i64 cn)).alloc (.cells #[.int .i64 b.name, .string b.own, .int .i64 b.pe, .int .i64 ln, .int .i64 cn] 116)).heap.size := (push hqn _).size
          have HNW : Hid (∀ ad, (some ⟨(Y2.setCell ⟨rb + 1, 4, none⟩ (.int .i64 cn)).heap.size, 0, none⟩ : Option Addr) = some ad → ∀ j u, ([.int .i64 b.name, .string b.own, .int .i64 b.pe, .int .i64 ln, .int .i64 cn] : List Value)[j]? = some u → ((Y2.setCell ⟨rb + 1, 4, none⟩ (.int .i64 cn)).alloc (.cells #[.int .i64 b.name, .string b.own, .int .i64 b.pe, .int .i64 ln, .int .i64 cn] 116)).cell? (ad.add j) = some u) := by
            intro ad e
            cases e
            exact World.news_of_block (heap_alloc_new (Y2.setCell ⟨rb + 1, 4, none⟩ (.int .i64 cn)) _)
          go_wp2_with (first | (at_builtin; refine wpList_append_any _ (by rfl) (.tmp 67) (.tmp 69) 55 (by rfl) wc.heap.size 116 j0 (.agg #[.int .i64 0, .string ⟨#[]⟩, .int .i64 0, .int .i64 0, .int .i64 0]) 5 48 Tryz.underlying55 ji jz0 jz1 jz2 rfl (by decide) _ i (rowList R i) (by rfl) (hown4.alloc _) (some ⟨Y2.heap.size, 0, none⟩) 1 1 [.int .i64 b.name, .string b.own, .int .i64 b.pe, .int .i64 ln, .int .i64 cn] (by rfl) (fun h => (by cases h)) (by rfl) (by simpa using HNW.out) (by intro u hu; simp at hu; rcases hu with rfl | rfl | rfl | rfl | rfl <;> rfl) (by unfold maxLen; omega) (by omega) (by first | exact hsz5 | simpa using hsz5) ?_; intro v' w3 ho3 hg3))
          go_roundw
          case rel =>
            refine ⟨i + 1, by omega, by go_num, ?_, (push hqn _).grown hg3 hsz5 (fun j hj => (hown4.lt j hj).1)⟩
            rw [rowList_succ, HRI.out]
            exact ho3
          case measure => simp [intOf]; omega
        · skip
          have HV2 : Hid (cn = -1) := by have := HCN.out; rw [if_neg hf2] at this; exact this
          have hr2 := ixAns_neg hf2
          rw [hr2]
          clear hr2
          have bRn := bR1
          have bBn := bB1
          have kpn := kp1
          have hqn := hq1
          have t0 := blk_cell bRn 0 _ rfl
          have t1 := blk_cell bRn 1 _ rfl
          have t2 := blk_cell bRn 2 _ rfl
          have t3 := blk_cell bRn 3 _ rfl
          have t4 := blk_cell bRn 4 _ rfl
          have hown4 := kpn.own hown1 (fun g hg e => by have := HVB.out g hg; have e : g = rb + 1 := e; omega)
          have hsz5 : wc.heap.size ≤ (Y2.alloc (.cells #[.int .i64 b.name, .string b.own, .int .i64 b.pe, .int .i64 ln, .int .i64 (-1)] 116)).heap.size := (push hqn _).size
          have HNW : Hid (∀ ad, (some ⟨Y2.heap.size, 0, none⟩ : Option Addr) = some ad → ∀ j u, ([.int .i64 b.name, .string b.own, .int .i64 b.pe, .int .i64 ln, .int .i64 (-1)] : List Value)[j]? = some u → (Y2.alloc (.cells #[.int .i64 b.name, .string b.own, .int .i64 b.pe, .int .i64 ln, .int .i64 (-1)] 116)).cell? (ad.add j) = some u) := by
            intro ad e
            cases e
            exact World.news_of_block (heap_alloc_new Y2 _)
          go_wp2_with (first | (at_builtin; refine wpList_append_any _ (by rfl) (.tmp 67) (.tmp 69) 55 (by rfl) wc.heap.size 116 j0 (.agg #[.int .i64 0, .string ⟨#[]⟩, .int .i64 0, .int .i64 0, .int .i64 0]) 5 48 Tryz.underlying55 ji jz0 jz1 jz2 rfl (by decide) _ i (rowList R i) (by rfl) (hown4.alloc _) (some ⟨Y2.heap.size, 0, none⟩) 1 1 [.int .i64 b.name, .string b.own, .int .i64 b.pe, .int .i64 ln, .int .i64 (-1)] (by rfl) (fun h => (by cases h)) (by rfl) (by exact HNW.out) (by intro u hu; simp at hu; rcases hu with rfl | rfl | rfl | rfl | rfl <;> rfl) (by unfold maxLen; omega) (by omega) (by first | exact hsz5 | simpa using hsz5) ?_; intro v' w3 ho3 hg3))
          go_roundw
          case rel =>
            refine ⟨i + 1, by omega, by go_num, ?_, (push hqn _).grown hg3 hsz5 (fun j hj => (hown4.lt j hj).1)⟩
            rw [rowList_succ, HRI.out]
            rw [HV2.out]
            exact ho3
          case measure => simp [intOf]; omega
      · skip
        have HV1 : Hid (ln = -1) := by have := HLN.out; rw [if_neg hf1] at this; exact this
        have hr1 := ixAns_neg hf1
        rw [hr1]
        clear hr1
        have bRn := bR1
        have bBn := bB1
        have kpn := kp1
        have hqn := hq1
        have y1 := blk_cell bBn 1 _ rfl
        have m1' := blk_cell (blk_below HBL.out hqn) 1 _ rfl
        go_wp2_with fail
        clear bR1 bB1 kp1 hq1 y1 m1' 
        refine (roomOf_any aro l.ron cro l.ro b.who _ n3 (HRO.out.below (after hb1 hqn))).mono ?_
        rintro e Y2 ⟨rfl, hby⟩
        have bB1 := blk_below bBn hby
        have bR1 := blk_below bRn hby
        have kp1 : Kept R0 Y2 (fun g => g = rb + 1) := kpn.trans (Kept.of_below hby)
        have hq1 := after hqn hby
        clear bBn bRn kpn hqn hby
        by_cases hf2 : ixOf (whoR l.ro) b.who l.ron < l.ron
        · skip
          rw [ixAns_pos hf2]
          have HV2 : Hid (cn = (l.ro (ixOf (whoR l.ro) b.who l.ron)).cab) := by have := HCN.out; rw [if_pos hf2] at this; exact this
          obtain ⟨q2, hq2'⟩ : ∃ q, q = ixOf (whoR l.ro) b.who l.ron := ⟨_, rfl⟩
          rw [← hq2'] at hf2 HV2 ⊢
          clear hq2'
          obtain ⟨tb, to', rfl, g0, g1, _, _⟩ := HRO.out q2 hf2
          have ltb := World.block_lt_of_cell? w _ g0
          have s1 : Y2.cell? ⟨tb, to' + q2 * 4 + 1, none⟩ = some (.int .i64 cn) := ((after hb1 hq1).cell (p := ⟨tb, to' + q2 * 4 + 1, none⟩) ltb).trans (by rw [HV2.out]; exact g1)
          have d0 : decide (0 ≤ (q2 : Int)) = true := by simp
          have i1 : (0 : Int) ≤ (q2 : Int) := by omega
          have i2 : (q2 : Int) < (l.ron : Int) := by omega
          have l1' := blk_cell (blk_below HBL.out hq1) 1 _ rfl
          have r3 := blk_cell bR1 4 _ rfl
          have z3 := blk_free bR1 4
          have bRn := rowCab_set bR1 (.int .i64 cn)
          have bBn := blk_set_other bB1 4 (.int .i64 cn) hne2
          have kpn := kp1.set (a := ⟨rb + 1, 4, none⟩) rfl (.int .i64 cn)
          have hqn : Below wc.heap.size wc (Y2.setCell ⟨rb + 1, 4, none⟩ (.int .i64 cn)) := hq1.setCell (p := ⟨rb + 1, 4, none⟩) hle _
          have t0 := blk_cell bRn 0 _ rfl
          have t1 := blk_cell bRn 1 _ rfl
          have t2 := blk_cell bRn 2 _ rfl
          have t3 := blk_cell bRn 3 _ rfl
          have t4 := blk_cell bRn 4 _ rfl
          have hown4 := kpn.own hown1 (fun g hg e => by have := HVB.out g hg; have e : g = rb + 1 := e; omega)
          have hsz5 : wc.heap.size ≤ ((Y2.setCell ⟨rb + 1, 4, none⟩ (.int .i64 cn)).alloc (.cells #[.int .i64 b.name, .string b.own, .int .i64 b.pe, .int .i64 (-1), .int .i64 cn] 116)).heap.size := (push hqn _).size
          have HNW : Hid (∀ ad, (some ⟨(Y2.setCell ⟨rb + 1, 4, none⟩ (.int .i64 cn)).heap.size, 0, none⟩ : Option Addr) = some ad → ∀ j u, ([.int .i64 b.name, .string b.own, .int .i64 b.pe, .int .i64 (-1), .int .i64 cn] : List Value)[j]? = some u → ((Y2.setCell ⟨rb + 1, 4, none⟩ (.int .i64 cn)).alloc (.cells #[.int .i64 b.name, .string b.own, .int .i64 b.pe, .int .i64 (-1), .int .i64 cn] 116)).cell? (ad.add j) = some u) := by
            intro ad e
            cases e
            exact World.news_of_block (heap_alloc_new (Y2.setCell ⟨rb + 1, 4, none⟩ (.int .i64 cn)) _)
          go_wp2_with (first | (at_builtin; refine wpList_append_any _ (by rfl) (.tmp 67) (.tmp 69) 55 (by rfl) wc.heap.size 116 j0 (.agg #[.int .i64 0, .string ⟨#[]⟩, .int .i64 0, .int .i64 0, .int .i64 0]) 5 48 Tryz.underlying55 ji jz0 jz1 jz2 rfl (by decide) _ i (rowList R i) (by rfl) (hown4.alloc _) (some ⟨Y2.heap.size, 0, none⟩) 1 1 [.int .i64 b.name, .string b.own, .int .i64 b.pe, .int .i64 (-1), .int .i64 cn] (by rfl) (fun h => (by cases h)) (by rfl) (by simpa using HNW.out) (by intro u hu; simp at hu; rcases hu with rfl | rfl | rfl | rfl | rfl <;> rfl) (by unfold maxLen; omega) (by omega) (by first | exact hsz5 | simpa using hsz5) ?_; intro v' w3 ho3 hg3))
          go_roundw
          case rel =>
            refine ⟨i + 1, by omega, by go_num, ?_, (push hqn _).grown hg3 hsz5 (fun j hj => (hown4.lt j hj).1)⟩
            rw [rowList_succ, HRI.out]
            rw [HV1.out]
            exact ho3
          case measure => simp [intOf]; omega
        · skip
          have HV2 : Hid (cn = -1) := by have := HCN.out; rw [if_neg hf2] at this; exact this
          have hr2 := ixAns_neg hf2
          rw [hr2]
          clear hr2
          have bRn := bR1
          have bBn := bB1
          have kpn := kp1
          have hqn := hq1
          have t0 := blk_cell bRn 0 _ rfl
          have t1 := blk_cell bRn 1 _ rfl
          have t2 := blk_cell bRn 2 _ rfl
          have t3 := blk_cell bRn 3 _ rfl
          have t4 := blk_cell bRn 4 _ rfl
          have hown4 := kpn.own hown1 (fun g hg e => by have := HVB.out g hg; have e : g = rb + 1 := e; omega)
          have hsz5 : wc.heap.size ≤ (Y2.alloc (.cells #[.int .i64 b.name, .string b.own, .int .i64 b.pe, .int .i64 (-1), .int .i64 (-1)] 116)).heap.size := (push hqn _).size
          have HNW : Hid (∀ ad, (some ⟨Y2.heap.size, 0, none⟩ : Option Addr) = some ad → ∀ j u, ([.int .i64 b.name, .string b.own, .int .i64 b.pe, .int .i64 (-1), .int .i64 (-1)] : List Value)[j]? = some u → (Y2.alloc (.cells #[.int .i64 b.name, .string b.own, .int .i64 b.pe, .int .i64 (-1), .int .i64 (-1)] 116)).cell? (ad.add j) = some u) := by
            intro ad e
            cases e
            exact World.news_of_block (heap_alloc_new Y2 _)
          go_wp2_with (first | (at_builtin; refine wpList_append_any _ (by rfl) (.tmp 67) (.tmp 69) 55 (by rfl) wc.heap.size 116 j0 (.agg #[.int .i64 0, .string ⟨#[]⟩, .int .i64 0, .int .i64 0, .int .i64 0]) 5 48 Tryz.underlying55 ji jz0 jz1 jz2 rfl (by decide) _ i (rowList R i) (by rfl) (hown4.alloc _) (some ⟨Y2.heap.size, 0, none⟩) 1 1 [.int .i64 b.name, .string b.own, .int .i64 b.pe, .int .i64 (-1), .int .i64 (-1)] (by rfl) (fun h => (by cases h)) (by rfl) (by exact HNW.out) (by intro u hu; simp at hu; rcases hu with rfl | rfl | rfl | rfl | rfl <;> rfl) (by unfold maxLen; omega) (by omega) (by first | exact hsz5 | simpa using hsz5) ?_; intro v' w3 ho3 hg3))
          go_roundw
          case rel =>
            refine ⟨i + 1, by omega, by go_num, ?_, (push hqn _).grown hg3 hsz5 (fun j hj => (hown4.lt j hj).1)⟩
            rw [rowList_succ, HRI.out]
            rw [HV1.out]
            rw [HV2.out]
            exact ho3
          case measure => simp [intOf]; omega
    · obtain rfl : i = m := by omega
      go_wp2
      go_ret
      refine ⟨⟨_, rfl, ?_⟩, hbw⟩
      rw [HRES.out.1, rowList_congr (S' := R) (fun j hj => by rw [HR.out]; exact HR2.out j hj)]
      exact own_base hown hb1.size
end Go.Proofs.YtlelckbeoclhbaaGreat

namespace Go.Proofs.YtlelckbeoclhbaaGreat
open Go.RowKit
theorem results_cell {P : Program} {fn : Func} {tmps : Array Value} {w : World} {r : Nat} {t : TypeId} {a : Addr} {v : Value} (hf : fn.results = #[.cell r t]) (ht : tmps.getD r undef = .pointer (some a)) (hl : (loadVar t a).run P w = .ok v w) :
    (results fn tmps).run P w = .ok v w := by
  have ha : (asAddr (.pointer (some a))).run P w = .ok a w := by simp [asAddr, go_sem]
  unfold results
  rw [hf]
  simp only [List.mapM_toArray, List.mapM_cons, List.mapM_nil, Sem.run_bind, ht]
  simp [↓ha, ↓hl]
end Go.Proofs.YtlelckbeoclhbaaGreat
