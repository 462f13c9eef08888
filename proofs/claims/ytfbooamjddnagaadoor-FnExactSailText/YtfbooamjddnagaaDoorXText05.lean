/-
  OWN TEXT: ViewD.
-/
import Derived.Test.YtfbooamjddnagaaDoorRows
import Derived.Test.YtfbooamjddnagaaDoorXText04
import Derived.Test.YtfbooamjddnagaaDoorB02
namespace Go.Proofs.YtfbooamjddnagaaDoor
open Go.ChangeShapes Go.WideShapes Go.ChangeAt Go.RowKit Go.Deep Go.Joins

theorem weightsAll_mem {H : Type} {P : Program} {e : Nat} {x : Nat} : ∀ {l : List (DataW H)} {d : DataW H}, d ∈ l → x ∈ DataW.weights P e d → x ∈ DataW.weightsAll P e l := by
  intro l
  induction l with
  | nil => intro d h; cases h
  | cons a l ih =>
    intro d h hx
    rw [DataW.weightsAll, List.mem_append]
    rcases List.mem_cons.1 h with rfl | h
    · exact .inl hx
    · exact .inr (ih h hx)

section
variable {H : Type} {enc : TypeId × Value → H} {P : Program} {w : World} {base : Nat} {held : Bool}

theorem view_list {t e fuel sz bytes : Nat} {v : Value} {x : DataW H × List MemPlace} (ht : P.underlying t = some (.slice e)) (hc : P.cellsOf e = sz) (h0 : 0 < sz) (hby : P.bytesOf e = bytes)
    (h : DataW.trod enc P w base (fun _ => true) held fuel t [v] = some x) (hw : ∀ y ∈ DataW.weights P t x.1, y ≤ reachBytes) :
    ∃ ao n cap C, v = .slice ao n cap ∧ RecsAt w ao n sz C ∧ n ≤ cap ∧ (ao = none → n = 0 ∧ cap = 0) ∧ cap * bytes ≤ reachBytes ∧
      ∀ k, k < n → (C k).length = sz ∧ ∃ fl z, DataW.trod enc P w base (fun _ => true) held fl e (C k) = some z ∧ ∀ y ∈ DataW.weights P e z.1, y ≤ reachBytes := by
  rcases open_slice ht h with ⟨hcs, hx⟩ | ⟨a, n, cap, m, fl, D, Pl, hcs, _, hl, hm, hmm, hx, hcell⟩
  · simp at hcs
    subst hcs
    exact ⟨none, 0, 0, fun _ => [], rfl, fun k hk => absurd hk (Nat.not_lt_zero _), Nat.le_refl _, fun _ => ⟨rfl, rfl⟩, by omega, fun k hk => absurd hk (Nat.not_lt_zero _)⟩
  · simp at hcs
    subst hcs
    rw [if_pos rfl] at hmm
    subst hmm
    have hcap : m * bytes ≤ reachBytes := by
      have := hw ((n + (m - n)) * P.bytesOf e) (by rw [hx]; simp [DataW.weights, ht])
      rw [hby, show n + (m - n) = m by omega] at this
      exact this
    by_cases hn0 : n = 0
    · subst hn0
      exact ⟨some a, 0, m, fun _ => [], rfl, fun k hk => absurd hk (Nat.not_lt_zero _), hl, (fun h => by cases h), hcap, fun k hk => absurd hk (Nat.not_lt_zero _)⟩
    have hspot : a.spot = none := by
      obtain ⟨cs, hcl, _⟩ := hcell 0 (by omega)
      rw [hc] at hcl
      obtain ⟨_, hlen, hget⟩ := World.cells?_some hcl
      have g0 := hget 0 (by omega)
      rw [List.getElem?_eq_getElem (by omega)] at g0
      have := World.cell?_spot g0
      simpa [Addr.add] using this
    obtain ⟨b, off, spot⟩ := a
    simp only at hspot
    subst hspot
    have key : ∀ k, k < n → ∃ cs : List Value, (cs.length = sz ∧ ∀ j, j < sz → w.cell? ⟨b, off + k * sz + j, none⟩ = some (cs.getD j (.bool false))) ∧ ∃ fl z, DataW.trod enc P w base (fun _ => true) held fl e cs = some z ∧ ∀ y ∈ DataW.weights P e z.1, y ≤ reachBytes := by
      intro k hk
      obtain ⟨cs, hcl, htr⟩ := hcell k (by omega)
      rw [hc] at hcl
      obtain ⟨_, hlen, hget⟩ := World.cells?_some hcl
      refine ⟨cs, ⟨hlen, fun j hj => ?_⟩, _, _, htr, fun y hy => ?_⟩
      · have g := hget j hj
        rw [List.getElem?_eq_getElem (by omega)] at g
        rw [List.getD_eq_getElem?_getD, List.getElem?_eq_getElem (by omega)]
        simp only [Addr.add_lit] at g
        exact g
      · refine hw y ?_
        have h1 : D k ∈ (List.range n).map D := List.mem_map.2 ⟨k, List.mem_range.2 hk, rfl⟩
        have h2 := weightsAll_mem h1 hy
        rw [hx]
        simp [DataW.weights, ht, h2]
    obtain ⟨C, hC⟩ := choose_lt key
    exact ⟨some ⟨b, off, none⟩, n, m, C, rfl, fun k hk => ⟨b, off, rfl, (hC k hk).1.2⟩, hl, (fun h => by cases h), hcap, fun k hk => ⟨(hC k hk).1.1, (hC k hk).2⟩⟩

theorem trod_struct3' {t : TypeId} {f0 f1 f2 : Field} {fuel : Nat} {spare : Nat → Bool} {cs : List Value} {x : DataW H × List MemPlace} (ht : P.underlying t = some (.struct #[f0, f1, f2])) (h : DataW.trod enc P w base spare held fuel t cs = some x) :
    ∃ y0 y1 y2 n, x.1 = .agg [y0.1, y1.1, y2.1] ∧ cs.length = P.cellsOf t ∧ DataW.trod enc P w base spare held n f0.type ((cs.drop f0.offset).take (P.cellsOf f0.type)) = some y0 ∧
      DataW.trod enc P w base spare held n f1.type ((cs.drop f1.offset).take (P.cellsOf f1.type)) = some y1 ∧ DataW.trod enc P w base spare held n f2.type ((cs.drop f2.offset).take (P.cellsOf f2.type)) = some y2 := by
  obtain ⟨xs, n, _, rfl, hl, hlen, hf⟩ := DataW.trod_struct ht h
  match xs, hlen with
  | [y0, y1, y2], _ => exact ⟨y0, y1, y2, n, by simp, hl, by simpa using hf 0 f0 rfl, by simpa using hf 1 f1 rfl, by simpa using hf 2 f2 rfl⟩
end

end Go.Proofs.YtfbooamjddnagaaDoor
