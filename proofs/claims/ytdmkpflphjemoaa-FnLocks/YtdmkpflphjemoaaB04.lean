/-
  OWN TEXT: Plain3, KitM.
-/
import Derived.Deep.Slices
import Derived.Test.YtdmkpflphjemoaaB03
import Derived.Test.YtdmkpflphjemoaaB02
namespace Go.Proofs.Ytdmkpflphjemoaa

/-- The values of the used ones among the first k slots. -/
def recs (U : Nat → Bool) (V : Nat → Int) : Nat → List Int
  | 0 => []
  | k + 1 => if U k then recs U V k ++ [V k] else recs U V k
theorem recs_yes {U : Nat → Bool} {V : Nat → Int} {k : Nat} (h : U k = true) : recs U V (k + 1) = recs U V k ++ [V k] := by rw [recs, if_pos h]
theorem recs_no {U : Nat → Bool} {V : Nat → Int} {k : Nat} (h : U k = false) : recs U V (k + 1) = recs U V k := by rw [recs, h]; rfl
theorem recs_le (U : Nat → Bool) (V : Nat → Int) (k : Nat) : (recs U V k).length ≤ k := by
  induction k with
  | zero => exact Nat.le_refl _
  | succ k ih =>
    cases h : U k with
    | true => rw [recs_yes h]; simp; exact ih
    | false => rw [recs_no h]; omega
/-- Place j of a list of numbers. -/
def getI (l : List Int) (j : Nat) : Int := l.getD j 0
/-- The cells of a list of numbers. -/
def cellsI (l : List Int) : List Value := intList (getI l) l.length
theorem cellsI_snoc (l : List Int) (x : Int) : cellsI (l ++ [x]) = cellsI l ++ [.int .i64 x] := by
  unfold cellsI
  rw [List.length_append, List.length_singleton, intList_succ]
  congr 1
  · unfold intList
    refine List.map_congr_left fun j hj => ?_
    have hj' : j < l.length := by simpa using hj
    simp [getI, List.getElem?_append_left hj']
  · simp [getI]
theorem cellsI_nil : cellsI [] = [] := rfl

end Go.Proofs.Ytdmkpflphjemoaa

namespace Go.Proofs.Ytdmkpflphjemoaa
open Go.RowKit Go.Deep

/-- The locks at block b from cell off on, the lines' slices named. -/
def LocksIn (w : World) (b off N : Nat) (K : Nat → Int) (H Q : Nat → Line) (ha qa : Nat → Option Addr) (hc qc : Nat → Nat) : Prop :=
  ∀ k, k < N → w.cell? ⟨b, off + k * 3, none⟩ = some (.int .i64 (K k)) ∧ w.cell? ⟨b, off + k * 3 + 1, none⟩ = some (.slice (ha k) (H k).n (hc k)) ∧
    w.cell? ⟨b, off + k * 3 + 2, none⟩ = some (.slice (qa k) (Q k).n (qc k)) ∧ LineAt w (ha k) (H k) ∧ LineAt w (qa k) (Q k) ∧ SliceOk (ha k) (H k).n (hc k) ∧ SliceOk (qa k) (Q k).n (qc k)
theorem LocksIn.below {w w' : World} {b off N : Nat} {K : Nat → Int} {H Q : Nat → Line} {ha qa : Nat → Option Addr} {hc qc : Nat → Nat} (h : LocksIn w b off N K H Q ha qa hc qc) (hb : Below w.heap.size w w') : LocksIn w' b off N K H Q ha qa hc qc := by
  intro k hk
  obtain ⟨h1, h2, h3, h4, h5, h6, h7⟩ := h k hk
  have hlt : b < w.heap.size := World.block_lt_of_cell? w _ h1
  exact ⟨(hb.cell hlt).trans h1, (hb.cell hlt).trans h2, (hb.cell hlt).trans h3, h4.below hb, h5.below hb, h6, h7⟩
theorem locks_in {w : World} {ao : Option Addr} {N : Nat} {K : Nat → Int} {H Q : Nat → Line} (h : LocksAt w ao N K H Q) : N = 0 ∨ ∃ b off ha qa hc qc, ao = some ⟨b, off, none⟩ ∧ b < w.heap.size ∧ LocksIn w b off N K H Q ha qa hc qc := by
  by_cases h0 : N = 0
  · exact .inl h0
  · refine .inr ?_
    obtain ⟨b, off, _, _, _, _, rfl, h1, _⟩ := h 0 (by omega)
    have hlt : b < w.heap.size := World.block_lt_of_cell? w _ h1
    obtain ⟨f, hf⟩ := choose_lt (α := Option Addr × Option Addr × Nat × Nat) (n := N) (p := fun k y => w.cell? ⟨b, off + k * 3, none⟩ = some (.int .i64 (K k)) ∧ w.cell? ⟨b, off + k * 3 + 1, none⟩ = some (.slice y.1 (H k).n y.2.2.1) ∧
      w.cell? ⟨b, off + k * 3 + 2, none⟩ = some (.slice y.2.1 (Q k).n y.2.2.2) ∧ LineAt w y.1 (H k) ∧ LineAt w y.2.1 (Q k) ∧ SliceOk y.1 (H k).n y.2.2.1 ∧ SliceOk y.2.1 (Q k).n y.2.2.2) (fun k hk => by
        obtain ⟨b', off', ha, hc, qa, qc, e, g1, g2, g3, g4, g5, g6, g7⟩ := h k hk
        simp only [Option.some.injEq, Addr.mk.injEq, and_true] at e
        obtain ⟨rfl, rfl⟩ := e
        exact ⟨(ha, qa, hc, qc), g1, g2, g3, g4, g5, g6, g7⟩)
    exact ⟨b, off, fun k => (f k).1, fun k => (f k).2.1, fun k => (f k).2.2.1, fun k => (f k).2.2.2, rfl, hlt, fun k hk => hf k hk⟩

/-- A line with its address written out. -/
theorem line_in {w : World} {ao : Option Addr} {l : Line} (h : LineAt w ao l) : l.n = 0 ∨ ∃ b off, ao = some ⟨b, off, none⟩ ∧ b < w.heap.size ∧ ∀ k, k < l.n → w.cell? ⟨b, off + k * 2, none⟩ = some (.int .i64 (l.T k)) ∧ w.cell? ⟨b, off + k * 2 + 1, none⟩ = some (.bool (l.S k)) := by
  by_cases h0 : l.n = 0
  · exact .inl h0
  · refine .inr ?_
    obtain ⟨b, off, rfl, h1, _⟩ := h 0 (by omega)
    refine ⟨b, off, rfl, World.block_lt_of_cell? w _ h1, fun k hk => ?_⟩
    obtain ⟨b', off', e, g1, g2⟩ := h k hk
    simp only [Option.some.injEq, Addr.mk.injEq, and_true] at e
    obtain ⟨rfl, rfl⟩ := e
    exact ⟨g1, g2⟩

/-- The value c tells by false that P holds. -/
def Tells (P : Prop) (c : Value) : Prop := ∃ b : Bool, c = .bool b ∧ (b = false ↔ P)
theorem tells_bad {P : Prop} (h : ¬ P) : Tells P (.bool true) := ⟨true, rfl, ⟨fun e => (by cases e), fun p => absurd p h⟩⟩
theorem tells_good {P : Prop} (h : P) : Tells P (.bool false) := ⟨false, rfl, ⟨fun _ => h, fun _ => rfl⟩⟩

/-- The call returned whether P holds. -/
def SaysIf (P : Prop) (e : Ending) : Prop := ∃ b : Bool, e = .returned (.bool b) ∧ (b = true ↔ P)
theorem says_yes {P : Prop} (h : P) : SaysIf P (.returned (.bool true)) := ⟨true, rfl, ⟨fun _ => h, fun _ => rfl⟩⟩
theorem says_no {P : Prop} (h : ¬ P) : SaysIf P (.returned (.bool false)) := ⟨false, rfl, ⟨fun e => (by cases e), fun p => absurd p h⟩⟩

/-- The row of those that wait. -/
def WaitsIs (w : World) (base : Nat) (v : Value) (ws : List Int) : Prop := w.ownsRow base 3 1 v ws.length (cellsI ws)
theorem WaitsIs.below {w w' : World} {base : Nat} {v : Value} {ws : List Int} (h : WaitsIs w base v ws) (hb : Below w.heap.size w w') : WaitsIs w' base v ws := own_below hb h
theorem WaitsIs.nil (w : World) (base : Nat) : WaitsIs w base (.slice none 0 0) [] := World.ownsRow_nil _ _ _ _
theorem WaitsIs.ints {w : World} {base n c : Nat} {ao : Option Addr} {ws : List Int} (h : WaitsIs w base (.slice ao n c) ws) : IntsAt w ao ws.length (getI ws) := by
  obtain ⟨ao', c', e, _⟩ := own_form h
  simp only [Value.slice.injEq] at e
  obtain ⟨rfl, rfl, rfl⟩ := e
  exact own_ints h
theorem WaitsIs.drew {w : World} {base : Nat} {v : Value} {ws : List Int} (h : WaitsIs w base v ws) : WaitsIs w.drew base v ws := World.ownsRow.drew h
/-- A box is not the block of an owned row of another element type. -/
theorem box_not_row {w : World} {b t base e size n : Nat} {cs : Array Value} {v : Value} {xs : List Value} (h : w.heap[b]? = some (.cells cs t (0, 0))) (ho : w.ownsRow base e size v n xs) (hne : t ≠ e) : some b ≠ v.ownBlock := by
  intro heq
  rcases ho.2 with ⟨rfl, _⟩ | ⟨g, cap, cur, rfl, _, hg, _⟩
  · simp [Value.ownBlock] at heq
  · simp only [Value.ownBlock, Option.some.injEq] at heq
    subst heq
    rw [h] at hg
    simp at hg
    exact hne hg.2
theorem WaitsIs.len {w : World} {base n c : Nat} {ao : Option Addr} {ws : List Int} (h : WaitsIs w base (.slice ao n c) ws) : n = ws.length := by
  obtain ⟨ao', c', e, _⟩ := own_form h
  simp only [Value.slice.injEq] at e
  exact e.2.1
theorem getI_mem {ws : List Int} {x : Int} : x ∈ ws ↔ ∃ j, j < ws.length ∧ getI ws j = x := by
  constructor
  · intro h
    obtain ⟨j, hj, e⟩ := List.getElem_of_mem h
    exact ⟨j, hj, by simp [getI, List.getElem?_eq_getElem hj, e]⟩
  · rintro ⟨j, hj, e⟩
    simp only [getI, List.getD_eq_getElem?_getD, List.getElem?_eq_getElem hj, Option.getD_some] at e
    rw [← e]; exact List.getElem_mem hj

end Go.Proofs.Ytdmkpflphjemoaa
