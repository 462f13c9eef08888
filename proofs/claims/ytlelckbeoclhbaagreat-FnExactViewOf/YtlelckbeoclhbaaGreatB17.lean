/-
  OWN TEXT: PlainVw, RangeFit, PlainHj, InI.
-/
import Derived.RangeFuncNested
import Derived.RangeFuncBound
import Derived.RangeFuncCalls
import Derived.RangeFuncLeaves
import Derived.Test.YtlelckbeoclhbaaGreatRows
import Derived.Deep.RegionHeld3
import Derived.Deep.LoopGhost
import Derived.Deep.DeepCutAuto
import Derived.Test.YtlelckbeoclhbaaGreatB08
import Derived.Test.YtlelckbeoclhbaaGreatB12
import Derived.Test.YtlelckbeoclhbaaGreatB16
import Derived.Test.YtlelckbeoclhbaaGreatB00
import Derived.Test.YtlelckbeoclhbaaGreatB11
import Derived.Test.YtlelckbeoclhbaaGreatB06
set_option maxHeartbeats 12800000
set_option maxRecDepth 100000
namespace Go.Proofs.YtlelckbeoclhbaaGreat
open Go.RowKit Classical
noncomputable def viewW (x : Off) : ViewW where
  bn := x.bkn
  bk := x.bk
  N := x.san
  rn := fun i => (rowsL (x.ld i) x.bk (x.sa i).id x.bkn).length
  rf := fun i => nthR (rowsL (x.ld i) x.bk (x.sa i).id x.bkn)
  ln := fun i => (x.sa i).la.n
  lf := fun i => left (x.sa i).la (x.ld i).st (x.ld i).stn
  qn := fun i => (x.sa i).ca.n
  qf := fun i => leftR (x.sa i).ca (x.ld i).ro (x.ld i).ron
  pf := fun i => (x.sa i).most - sits (x.ld i).se (x.ld i).sen
def noView : ViewW := ⟨0, fun _ => ⟨0, 0, ⟨#[]⟩, 0, fun _ => 0, 0, 0, 0, 0, false, 0, 0, 0, 0⟩, 0, fun _ => 0, fun _ _ => ⟨0, ⟨#[]⟩, 0, 0, 0⟩, fun _ => 0, fun _ _ => 0, fun _ => 0, fun _ _ => 0, fun _ => 0⟩
noncomputable def viewA (x : Off) : ViewW := if OffOk x then viewW x else noView
theorem viewA_yes {x : Off} (h : OffOk x) : viewA x = viewW x := if_pos h
theorem viewA_no {x : Off} (h : ¬ OffOk x) : viewA x = noView := if_neg h
theorem viewW_short {x : Off} (h : OffOk x) (hs : Off.Short x 1048576) : VShort (viewW x) := by
  have h1 := h.2.2.1
  have h2 := h.1.1
  refine ⟨by show x.bkn ≤ 1000; omega, hs.2.2.2, by show x.san ≤ 1000; omega, fun i hi => ?_, fun i hi => (hs.1.2 i hi).2.2.1, fun i hi => (hs.1.2 i hi).2.2.2⟩
  have := rowsL_le (x.ld i) x.bk (x.sa i).id x.bkn
  show (rowsL (x.ld i) x.bk (x.sa i).id x.bkn).length ≤ 1048576
  omega
theorem viewA_short {x : Off} (hs : Off.Short x 1048576) : VShort (viewA x) := by
  by_cases h : OffOk x
  · rw [viewA_yes h]; exact viewW_short h hs
  · rw [viewA_no h]; exact ⟨Nat.zero_le _, fun i hi => absurd hi (Nat.not_lt_zero _), Nat.zero_le _, fun i hi => absurd hi (Nat.not_lt_zero _), fun i hi => absurd hi (Nat.not_lt_zero _), fun i hi => absurd hi (Nat.not_lt_zero _)⟩
theorem ids_up {x : Off} (h : OffOk x) : ∀ i j, i < j → j < x.san → (x.sa i).id < (x.sa j).id := by
  intro i j hij
  induction j with
  | zero => omega
  | succ j ih =>
    intro hj
    have h1 := (h.1.2 (j + 1) hj).2 (by omega)
    have h1 : (x.sa j).id < (x.sa (j + 1)).id := h1
    by_cases e : i = j
    · subst e; exact h1
    · have := ih (by omega) (by omega); omega
structure SVt (W0 u : World) (base : Nat) (V : ViewW) (k1 k2 k3 k4 sb st : Nat) (sc : Array Value) (vb vr vl vq vp ur ul uq up : Value) (E R L Q : Nat → Value) : Prop where
  vt : VTo u base W0.heap.size V k1 k2 k3 k4 vb vr vl vq vp E R L Q
  box : u.heap[W0.heap.size]? = some (.cells #[vb, ur, ul, uq, up] 33 (0, 0))
  sbx : u.heap[sb]? = some (.cells sc st (0, 0))
  bel : Below W0.heap.size W0 u
  lt : W0.heap.size < sb
section
variable {W0 u u' : World} {base : Nat} {V : ViewW} {k1 k2 k3 k4 sb st : Nat} {sc : Array Value} {vb vr vl vq vp ur ul uq up : Value} {E R L Q : Nat → Value}
theorem SVt.below (h : SVt W0 u base V k1 k2 k3 k4 sb st sc vb vr vl vq vp ur ul uq up E R L Q) (hb : Below u.heap.size u u') : SVt W0 u' base V k1 k2 k3 k4 sb st sc vb vr vl vq vp ur ul uq up E R L Q :=
  ⟨h.vt.below hb, blk_below h.box hb, blk_below h.sbx hb, h.bel.trans (hb.mono (blk_lt h.box |> Nat.le_of_lt)), h.lt⟩
theorem SVt.grow {v : Value} {e sz n : Nat} {xs : List Value} (h : SVt W0 u base V k1 k2 k3 k4 sb st sc vb vr vl vq vp ur ul uq up E R L Q) (ho : u.ownsRow W0.heap.size e sz v n xs) (hg : u.grownBy u' v.ownBlock) (h1 : e ≠ 33) (h2 : e ≠ st) :
    u'.heap[W0.heap.size]? = some (.cells #[vb, ur, ul, uq, up] 33 (0, 0)) ∧ u'.heap[sb]? = some (.cells sc st (0, 0)) ∧ Below W0.heap.size W0 u' :=
  ⟨(kept_row hg).blk h.box (fun q => own_notE ho h.box h1 _ q rfl), (kept_row hg).blk h.sbx (fun q => own_notE ho h.sbx h2 _ q rfl), h.bel.grown hg h.bel.size (fun j hj => (ho.lt j hj).1)⟩
theorem SVt.sto (h : SVt W0 u base V k1 k2 k3 k4 sb st sc vb vr vl vq vp ur ul uq up E R L Q) (i : Nat) (v : Value) :
    VTo (u.setCell ⟨W0.heap.size, i, none⟩ v) base W0.heap.size V k1 k2 k3 k4 vb vr vl vq vp E R L Q ∧ (u.setCell ⟨W0.heap.size, i, none⟩ v).heap[W0.heap.size]? = some (.cells (#[vb, ur, ul, uq, up].setIfInBounds i v) 33 (0, 0)) ∧ (u.setCell ⟨W0.heap.size, i, none⟩ v).heap[sb]? = some (.cells sc st (0, 0)) ∧ Below W0.heap.size W0 (u.setCell ⟨W0.heap.size, i, none⟩ v) := by
  have hk : Kept u (u.setCell ⟨W0.heap.size, i, none⟩ v) (fun b => b = W0.heap.size) := (Kept.refl u (fun b => b = W0.heap.size)).set (a := ⟨W0.heap.size, i, none⟩) rfl _
  refine ⟨h.vt.other hk (fun b e => ?_), blk_set h.box i v, hk.blk h.sbx (fun e => ?_), h.bel.setCell (p := ⟨W0.heap.size, i, none⟩) (Nat.le_refl _) _⟩
  · have e : b = W0.heap.size := e
    subst e
    exact ⟨_, _, h.box, by decide, by decide, by decide, by decide, by decide⟩
  · have e : sb = W0.heap.size := e
    have := h.lt
    omega
end
end Go.Proofs.YtlelckbeoclhbaaGreat

namespace Go.Proofs.YtlelckbeoclhbaaGreat
open Go.RowKit
section
variable {F : Fence} {n : Nat} {P : Program}
def SeqFit {α : Type} (F : Fence) (n : Nat) (P : Program) (g : Nat) (lb : Array Value) (encs : α → Array Value) (Kp : World → World → Prop) (Fit : Nat → α → Nat → World → Prop) (N : Nat) (w : World) : Prop :=
  ∀ (l : Nat) (J : List α → World → Prop) (W : World), Below w.heap.size w W → AbidesFrom W.heap.size J →
    (∀ pre x W0 W1, J pre W0 → Below W0.heap.size W0 W1 → J pre W1 → Fit pre.length x W0.heap.size W1 → YieldAt F (n - 1) P l (encs x) W1 fun e W' => e = .returned (.bool true) ∧ J (pre ++ [x]) W' ∧ Kp W1 W') →
    J [] W → CallsIn F n P g (#[.func (.yield l) #[] #[]] ++ lb) W fun e W' => (∃ v, e = .returned v) ∧ ∃ xs : List α, xs.length = N ∧ J xs W'
def fitPost {α : Type} (Kp : World → World → Prop) (I : List α → World → Prop) (xs : List α) (W : World) : Exit → Act → World → Prop
  | .normal, _, W' => KeepsOthers W W' ∧ Kp W W' ∧ I xs W'
  | _, _, _ => False
theorem range_fit {α : Type} {g : Operand} {ps : Array Tmp} {assign body : Code} {Q : Exit → Act → World → Prop} {a : Act} {w : World} (hro : F.round = none) (h1 : 1 ≤ n) {gf : Nat} {lb : Array Value} (hg : a.eval g = .func (.func gf) #[] lb) (hFg : F.fn gf)
    (eg : ∀ args w, (callFunc gf args).run P w = .ok (.enter gf args) w) {encs : α → Array Value} {Kp : World → World → Prop} {Fit : Nat → α → Nat → World → Prop} {N : Nat} {w0 : World} (hseq : SeqFit F (n - 1) P gf lb encs Kp Fit N w0)
    (hKt : ∀ {A B C : World}, Kp A B → Kp B C → Kp A C) (hKb : ∀ (W : World) (l : Nat) (o o' : Obj), w.heap.size ≤ l → W.heap[l]? = some o → o.isCells = false → o.isWalk = false → Kp W (W.putObj l o')) (hb0 : Below w0.heap.size w0 w) (hps : ∀ x, (encs x).size = ps.size)
    (I : List α → World → Prop) (I2 : List α → α → World → Prop) (Ax : List α → α → Act → World → Prop) (hI : OwnFrom w.heap.size I) (hAx : ∀ x a', OwnFrom w.heap.size (fun pre W => Ax pre x a' W)) (h0 : I [] w)
    (hfit : ∀ pre x W0 W1, I pre W0 → Below W0.heap.size W0 W1 → I pre W1 → Fit pre.length x W0.heap.size W1 → I2 pre x W1)
    (hassign : ∀ (l : Nat) (pre : List α) (x : α) (W : World) (K : Act → World → Prop), I2 pre x W → (∀ a' W', Ax pre x a' W' → KeepsOthers W W' → Kp W W' → K a' W') → assign.wpIn (F.inRound l) (n - 1 - 1) P (Exit.then K (fun _ _ _ => False)) { tmps := (ps.zip (encs x)).foldl (fun t (p, v) => t.setIfInBounds p v) a.tmps, defers := [] } W)
    (hbody : ∀ (l : Nat) (pre : List α) (x : α) (a' : Act) (W : World), Ax pre x a' W → body.wpIn (F.inRound l) (n - 1 - 1) P (fitPost Kp I (pre ++ [x]) W) a' W)
    (hdone : ∀ (D : Nat) (xs : List α) (W : World), w.heap.size ≤ D → xs.length = N → I xs W → W.heap[D]? = some (.deferred (some [])) → Q .normal { a with defers := { target := .collected D, args := #[] } :: a.defers } W) :
    (Code.rangeFunc g ps assign body).wpIn F n P Q a w := by
  refine wpIn_rangeFunc fun fn hfn => ?_
  rw [hro]
  obtain ⟨rec, hrec⟩ : ∃ rec : LoopState → Option Code → Loop, rec = fun st pe => { state := st, pending := pe, fn, tmps := a.tmps, params := ps, assign, body, defers := w.heap.size } := ⟨_, rfl⟩
  obtain ⟨V, hV⟩ : ∃ V, (w.alloc (.deferred (some []))).alloc (.loop (rec .ready none)) = V := ⟨_, rfl⟩
  have sV : V.heap.size = w.heap.size + 2 := by rw [← hV]; simp
  have lV : V.heap[w.heap.size + 1]? = some (.loop (rec .ready none)) := by
    have h := World.alloc_heap_new (w.alloc (.deferred (some []))) (.loop (rec .ready none))
    rw [World.size_alloc] at h
    rw [← hV]; exact h
  have dV : V.heap[w.heap.size]? = some (.deferred (some [])) := by rw [← hV]; exact (Below.heap_alloc _ _ _ (by simp)).trans (World.alloc_heap_new w _)
  have iV : I [] V := by rw [← hV]; exact hI.alloc _ (hI.alloc _ h0)
  have bV : Below w0.heap.size w0 V := by rw [← hV]; exact hb0.trans ((((Below.refl _ w).alloc (Nat.le_refl _) _).alloc (by simp) _).mono hb0.size)
  refine ⟨w.heap.size + 1, [{ target := .collected w.heap.size, args := #[] }], V, { target := .fn (.func gf) lb, args := #[.func (.yield (w.heap.size + 1)) #[] #[]] }, V, gf, #[.func (.yield (w.heap.size + 1)) #[] #[]] ++ lb, V, ?_, ?_, ?_, ?_, fun _ => h1, ?_⟩
  · rw [← hV, hrec]; exact run_enterLoop_outer _ _ _ _ _
  · simp only [resolve, hg]
    simp [go_sem]
  · intro f' hf'
    simp [Target.leads] at hf'
    subst hf'
    exact hFg
  · simp [invoke, go_sem, eg]
  · refine (hseq (w.heap.size + 1) (fun pre W => I pre W ∧ W.heap[w.heap.size + 1]? = some (.loop (rec .ready none)) ∧ W.heap[w.heap.size]? = some (.deferred (some []))) V bV (fun s A B row hs hg' hr => ?_) ?_ ⟨iV, lV, dV⟩).mono ?_
    · refine ⟨hI s A B row hs.1 hg' (fun r e => ?_), (grownBy_keeps hg' (fun r e => (hr r e).2) hs.2.1 rfl).trans hs.2.1, (grownBy_keeps hg' (fun r e => (hr r e).2) hs.2.2 rfl).trans hs.2.2⟩
      obtain ⟨hB, o, ho, hw⟩ := hr r e
      exact ⟨by omega, o, ho, Obj.not_cells_of_walk hw⟩
    · rintro pre x W0 W ⟨hi0, hl0, _⟩ hb01 ⟨hi, hl, hk⟩ hf
      have h2 : I2 pre x W := hfit pre x W0 W hi0 hb01 hi hf
      have hy := run_yield (P := P) (args := encs x) hl (by rw [hrec]; exact hps x)
      rw [hrec] at hy
      refine ⟨fn, _, assign, body, hy, roundIn_of_wpIn hfn (hassign _ pre x W _ h2 fun a' V1 hax hko hkp => ?_)⟩
      have hl1 := hko.same _ _ hl rfl
      have hk1 := hko.same _ _ hk rfl
      have hlt1 : w.heap.size + 1 < V1.heap.size := (Array.getElem?_eq_some_iff.1 hl1).1
      refine ⟨_, run_beginRound hl1 (by rw [hrec]), ?_⟩
      have hl2 : (V1.putObj (w.heap.size + 1) (.loop { rec .ready none with state := .busy })).heap[w.heap.size + 1]? = some (.loop { rec .ready none with state := .busy }) := World.putObj_heap_same hlt1
      have hk2 : (V1.putObj (w.heap.size + 1) (.loop { rec .ready none with state := .busy })).heap[w.heap.size]? = some (.deferred (some [])) := (World.putObj_heap_other (by omega)).trans hk1
      refine wpIn_mono (hbody _ pre x a' _ ((hAx x a').putObj _ hax (by omega) hl1 rfl)) ?_
      rintro e a3 W3 hp
      cases e with
      | normal =>
        obtain ⟨hk3, hkp3, hi3⟩ := hp
        have hl3 := hk3.same _ _ hl2 rfl
        have hr := run_endRound (P := P) none hl3
        refine ⟨_, _, hr, rfl, ⟨hI.putObj _ hi3 (by omega) hl3 rfl, ?_, ?_⟩, hKt (hKt (hKt hkp (hKb _ _ _ _ (by omega) hl1 rfl rfl)) hkp3) (hKb _ _ _ _ (by omega) hl3 rfl rfl)⟩
        · rw [hrec] at hl3 ⊢
          exact World.putObj_heap_same (Array.getElem?_eq_some_iff.1 hl3).1
        · exact (World.putObj_heap_other (by omega)).trans (hk3.same _ _ hk2 rfl)
      | ret => exact hp.elim
      | exit id => exact hp.elim
      | goto t => exact hp.elim
      | panic ch => exact hp.elim
      | outgrown => exact hp.elim
    · rintro e W2 ⟨⟨v, rfl⟩, xs, hS, hi, hl, hk⟩
      have hr := run_endLoop (P := P) hl (by rw [hrec]; simp)
      rw [hrec] at hr
      exact ⟨none, _, hr, hdone _ xs _ (Nat.le_refl _) hS (hI.putObj _ hi (by omega) hl rfl) ((World.putObj_heap_other (by omega)).trans hk)⟩
end
end Go.Proofs.YtlelckbeoclhbaaGreat

namespace Go.Proofs.YtlelckbeoclhbaaGreat
open Go.RowKit Classical
noncomputable def onL (P : Nat → Prop) : Nat → List Nat
  | 0 => []
  | n + 1 => if P n then onL P n ++ [n] else onL P n
theorem onL_yes {P : Nat → Prop} {n : Nat} (h : P n) : onL P (n + 1) = onL P n ++ [n] := by rw [onL, if_pos h]
theorem onL_no {P : Nat → Prop} {n : Nat} (h : ¬ P n) : onL P (n + 1) = onL P n := by rw [onL, if_neg h]
noncomputable def onI (P : Nat → Prop) (n j : Nat) : Nat := (onL P n).getD j 0
theorem onI_last (P : Nat → Prop) {n : Nat} (h : P n) : onI P (n + 1) (onL P n).length = n := by unfold onI; rw [onL_yes h]; simp
theorem onI_old (P : Nat → Prop) {n j : Nat} (hj : j < (onL P n).length) : onI P (n + 1) j = onI P n j := by
  unfold onI
  by_cases h : P n
  · rw [onL_yes h, List.getD_eq_getElem?_getD, List.getD_eq_getElem?_getD, List.getElem?_append_left hj]
  · rw [onL_no h]
theorem onL_len (P : Nat → Prop) (n : Nat) : (onL P n).length = cnt P n := by
  induction n with
  | zero => rfl
  | succ n ih =>
    by_cases h : P n
    · rw [onL_yes h, cnt_yes h, List.length_append, ih]; rfl
    · rw [onL_no h, cnt_no h, ih]
theorem onI_is (P : Nat → Prop) (n : Nat) : ∀ j, j < (onL P n).length → onI P n j < n ∧ P (onI P n j) := by
  induction n with
  | zero => intro j hj; simp [onL] at hj
  | succ n ih =>
    intro j hj
    by_cases h : P n
    · rw [onL_yes h, List.length_append] at hj
      by_cases e : j = (onL P n).length
      · subst e; rw [onI_last P h]; exact ⟨by omega, h⟩
      · have hj' : j < (onL P n).length := by simp at hj; omega
        rw [onI_old P hj']; have := ih j hj'; exact ⟨by omega, this.2⟩
    · rw [onL_no h] at hj
      rw [onI_old P hj]; have := ih j hj; exact ⟨by omega, this.2⟩
theorem onI_all (P : Nat → Prop) (n : Nat) : ∀ i, i < n → P i → ∃ j, j < (onL P n).length ∧ onI P n j = i := by
  induction n with
  | zero => intro i hi; omega
  | succ n ih =>
    intro i hi hp
    by_cases e : i = n
    · subst e
      exact ⟨(onL P i).length, by rw [onL_yes hp]; simp, onI_last P hp⟩
    · obtain ⟨j, hj, hx⟩ := ih i (by omega) hp
      refine ⟨j, ?_, by rw [onI_old P hj]; exact hx⟩
      by_cases h : P n
      · rw [onL_yes h, List.length_append]; omega
      · rw [onL_no h]; exact hj
theorem cnt_congr {P Q : Nat → Prop} {n : Nat} (h : ∀ i, i < n → (P i ↔ Q i)) : cnt P n = cnt Q n := by
  induction n with
  | zero => rfl
  | succ n ih =>
    have i1 := ih (fun i hi => h i (by omega))
    have h1 := h n (by omega)
    by_cases c : P n
    · rw [cnt_yes c, cnt_yes (h1.1 c), i1]
    · rw [cnt_no c, cnt_no (fun q => c (h1.2 q)), i1]
theorem cnt_on (P Q : Nat → Prop) (n : Nat) : cnt (fun j => Q (onI P n j)) (onL P n).length = cnt (fun i => P i ∧ Q i) n := by
  induction n with
  | zero => rfl
  | succ n ih =>
    have key : cnt (fun j => Q (onI P (n + 1) j)) (onL P n).length = cnt (fun i => P i ∧ Q i) n := by
      rw [← ih]; exact cnt_congr (fun j hj => by rw [onI_old P hj])
    by_cases h : P n
    · rw [show (onL P (n + 1)).length = (onL P n).length + 1 by rw [onL_yes h]; simp]
      by_cases q : Q n
      · rw [cnt_yes (P := fun j => Q (onI P (n + 1) j)) (by rw [onI_last P h]; exact q), cnt_yes (P := fun i => P i ∧ Q i) ⟨h, q⟩, key]
      · rw [cnt_no (P := fun j => Q (onI P (n + 1) j)) (by rw [onI_last P h]; exact q), cnt_no (P := fun i => P i ∧ Q i) (fun c => q c.2), key]
    · rw [onL_no h, cnt_no (P := fun i => P i ∧ Q i) (fun c => h c.1)]
      rw [← ih]
      exact cnt_congr (fun j hj => by rw [onI_old P hj])
def NoCar (b : Book) : Prop := b.len = 0 ∧ b.hei = 0
instance (b : Book) : Decidable (NoCar b) := by unfold NoCar; exact inferInstance
def NoCab (b : Book) : Prop := b.cl = 0 ∧ b.all = false ∧ b.be = 0
instance (b : Book) : Decidable (NoCab b) := by unfold NoCab; exact inferInstance
def HoldC (l : Load) (b : Book) : Prop := NoCar b ∨ (ixOf (whoS l.st) b.who l.stn < l.stn ∧ (l.st (ixOf (whoS l.st) b.who l.stn)).len = b.len ∧ (l.st (ixOf (whoS l.st) b.who l.stn)).hei = b.hei)
def HoldR (s : Sail) (l : Load) (b : Book) : Prop := NoCab b ∨ (ixOf (whoR l.ro) b.who l.ron < l.ron ∧ (l.ro (ixOf (whoR l.ro) b.who l.ron)).all = b.all ∧ (b.all = true ∨ (l.ro (ixOf (whoR l.ro) b.who l.ron)).many = b.be) ∧ s.ca.A (l.ro (ixOf (whoR l.ro) b.who l.ron)).cab.toNat = b.cl)
def HoldT (l : Load) (b : Book) : Prop := ixOf (whoT l.se) b.who l.sen < l.sen ∧ (l.se (ixOf (whoT l.se) b.who l.sen)).many = b.pe
def Holds (s : Sail) (l : Load) (b : Book) : Prop := HoldC l b ∧ HoldR s l b ∧ HoldT l b
def Just (s : Sail) (l : Load) (m : Nat) (B : Nat → Book) : Prop :=
  (∀ j, j < m → Holds s l (B j)) ∧ l.stn = cnt (fun j => ¬ NoCar (B j)) m ∧ l.ron = cnt (fun j => ¬ NoCab (B j)) m ∧ l.sen = m
theorem one_of {F : Nat → Int} {n : Nat} (h : ∀ i, i < n → ¬ Has F i (F i)) {j x : Nat} (hj : j < n) (hx : x < n) (e : F j = F x) : j = x := by
  by_cases c : j < x
  · exact absurd ⟨j, c, e⟩ (h x hx)
  · by_cases c2 : x < j
    · exact absurd ⟨x, c2, e.symm⟩ (h j hj)
    · omega
theorem ixOf_one {F : Nat → Int} {n : Nat} (h : ∀ i, i < n → ¬ Has F i (F i)) {j : Nat} {q : Int} (hj : j < n) (e : F j = q) : ixOf F q n = j := by
  have hh : ixOf F q n < n := (has_iff F n q).1 ⟨j, hj, e⟩
  exact (one_of h hj hh (e.trans (ixOf_at F q n hh).symm)).symm
theorem noCar_iff {b : Book} (h : PartyOk b.p) : NoCar b ↔ b.len = 0 := by
  unfold NoCar
  constructor
  · exact fun h => h.1
  · intro e
    rcases h.2.1 with c | c
    · exact c
    · have := c.1; unfold In Book.p at this; simp at this; omega
theorem hasCar_iff {b : Book} (h : PartyOk b.p) : ¬ NoCar b ↔ 0 < b.len := by
  rw [noCar_iff h]
  rcases h.2.1 with c | c
  · have := c.1; unfold Book.p at this; simp at this; omega
  · have := c.1; unfold In Book.p at this; simp at this; omega
theorem noCab_iff {b : Book} (h : PartyOk b.p) : NoCab b ↔ b.cl = 0 := by
  unfold NoCab
  constructor
  · exact fun h => h.1
  · intro e
    rcases h.2.2 with c | c
    · exact c
    · have := c.1; unfold In Book.p at this; simp at this; omega
theorem hasCab_iff {b : Book} (h : PartyOk b.p) : ¬ NoCab b ↔ 0 < b.cl := by
  rw [noCab_iff h]
  rcases h.2.2 with c | c
  · have := c.1; unfold Book.p at this; simp at this; omega
  · have := c.1; unfold In Book.p at this; simp at this; omega
theorem holds_iff {s : Sail} {l : Load} {b : Book} (hl : LoadOk s l) (hp : PartyOk b.p) : Holds s l b ↔ StandsB s l b := by
  obtain ⟨hd, hr, hs⟩ := hl
  have u1 : ∀ i, i < l.stn → ¬ Has (whoS l.st) i (whoS l.st i) := fun i hi => (hd.2.2.1 i hi).2.2.2.2
  have u2 : ∀ i, i < l.ron → ¬ Has (whoR l.ro) i (whoR l.ro i) := fun i hi => (hr.2.2.1 i hi).1.2.1
  have u3 : ∀ i, i < l.sen → ¬ Has (whoT l.se) i (whoT l.se i) := fun i hi => (hs.2.2.1 i hi).2.1
  unfold Holds StandsB HoldC HoldR HoldT
  rw [noCar_iff hp, noCab_iff hp]
  constructor
  · rintro ⟨h1, h2, h3⟩
    refine ⟨⟨_, h3.1, ixOf_at (whoT l.se) _ _ h3.1, h3.2⟩, ?_, ?_⟩
    · rcases h1 with h | h
      · exact .inl h
      · exact .inr ⟨_, h.1, ixOf_at (whoS l.st) _ _ h.1, h.2.1, h.2.2⟩
    · rcases h2 with h | h
      · exact .inl h
      · exact .inr ⟨_, h.1, ixOf_at (whoR l.ro) _ _ h.1, h.2.1, h.2.2.2, h.2.2.1⟩
  · rintro ⟨⟨j, hj, e1, e2⟩, h2, h3⟩
    refine ⟨?_, ?_, ?_⟩
    · rcases h2 with h | ⟨i, hi, c1, c2, c3⟩
      · exact .inl h
      · have e : ixOf (whoS l.st) b.who l.stn = i := ixOf_one u1 hi c1
        rw [e]; exact .inr ⟨hi, c2, c3⟩
    · rcases h3 with h | ⟨i, hi, c1, c2, c3, c4⟩
      · exact .inl h
      · have e : ixOf (whoR l.ro) b.who l.ron = i := ixOf_one u2 hi c1
        rw [e]; exact .inr ⟨hi, c2, c4, c3⟩
    · have e : ixOf (whoT l.se) b.who l.sen = j := ixOf_one u3 hj e1
      rw [e]; exact ⟨hj, e2⟩
theorem just_iff {o : Off} {k : Nat} (hk : LoadOk (o.sa k) (o.ld k)) (hb : ∀ i, i < o.bkn → PartyOk (o.bk i).p) :
    Just (o.sa k) (o.ld k) (onL (On o k) o.bkn).length (fun j => o.bk (onI (On o k) o.bkn j)) ↔ Tallies o k := by
  have hp : ∀ j, j < (onL (On o k) o.bkn).length → PartyOk (o.bk (onI (On o k) o.bkn j)).p := fun j hj => hb _ (onI_is (On o k) o.bkn j hj).1
  have c1 : cnt (fun j => ¬ NoCar (o.bk (onI (On o k) o.bkn j))) (onL (On o k) o.bkn).length = cnt (fun i => On o k i ∧ 0 < (o.bk i).len) o.bkn := by
    rw [← cnt_on (On o k) (fun i => 0 < (o.bk i).len) o.bkn]
    exact cnt_congr (fun j hj => hasCar_iff (hp j hj))
  have c2 : cnt (fun j => ¬ NoCab (o.bk (onI (On o k) o.bkn j))) (onL (On o k) o.bkn).length = cnt (fun i => On o k i ∧ 0 < (o.bk i).cl) o.bkn := by
    rw [← cnt_on (On o k) (fun i => 0 < (o.bk i).cl) o.bkn]
    exact cnt_congr (fun j hj => hasCab_iff (hp j hj))
  unfold Just Tallies
  rw [c1, c2, onL_len]
  constructor
  · rintro ⟨h, r⟩
    refine ⟨fun i hi ho => ?_, r⟩
    obtain ⟨j, hj, rfl⟩ := onI_all (On o k) o.bkn i hi ho
    exact (holds_iff hk (hp j hj)).1 (h j (by rw [← onL_len]; exact hj))
  · rintro ⟨h, r⟩
    refine ⟨fun j hj => ?_, r⟩
    rw [← onL_len] at hj
    have := onI_is (On o k) o.bkn j hj
    exact (holds_iff hk (hp j hj)).2 (h _ this.1 this.2)
end Go.Proofs.YtlelckbeoclhbaaGreat

namespace Go.Proofs.YtlelckbeoclhbaaGreat
open Go.RowKit
theorem within_yes (x lo hi : Int) (w : World) (h : In x lo hi) :
    Calls Tryz.prog 143 #[.int .i64 x, .int .i64 lo, .int .i64 hi] w fun e w' => e = .returned (.bool true) ∧ w' = w := by
  have e1 : decide (lo ≤ x) = true := by simpa using h.1
  have e2 : decide (x ≤ hi) = true := by simpa using h.2
  clear h
  go_enter Tryz.func143, Tryz.ntmps143
  go_wp2
  go_ret
  exact ⟨rfl, rfl⟩
theorem within_no (x lo hi : Int) (w : World) (h : ¬ In x lo hi) :
    Calls Tryz.prog 143 #[.int .i64 x, .int .i64 lo, .int .i64 hi] w fun e w' => e = .returned (.bool false) ∧ w' = w := by
  by_cases h1 : lo ≤ x
  · have e1 : decide (lo ≤ x) = true := by simpa using h1
    have e2 : decide (x ≤ hi) = false := by simp; exact Int.not_le.1 (fun h2 => h ⟨h1, h2⟩)
    clear h h1
    go_enter Tryz.func143, Tryz.ntmps143
    go_wp2
    go_ret
    exact ⟨rfl, rfl⟩
  · have e1 : decide (lo ≤ x) = false := by simpa using h1
    clear h h1
    go_enter Tryz.func143, Tryz.ntmps143
    go_wp2
    go_ret
    exact ⟨rfl, rfl⟩
theorem within_is (x lo hi : Int) (w : World) :
    Calls Tryz.prog 143 #[.int .i64 x, .int .i64 lo, .int .i64 hi] w fun e w' => e = .returned (.bool (decide (In x lo hi))) ∧ w' = w := by
  by_cases h : In x lo hi
  · rw [decide_eq_true h]; exact within_yes x lo hi w h
  · rw [decide_eq_false h]; exact within_no x lo hi w h
end Go.Proofs.YtlelckbeoclhbaaGreat
