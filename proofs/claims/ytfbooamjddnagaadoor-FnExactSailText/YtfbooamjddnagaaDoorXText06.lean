/-
  OWN TEXT: ViewP.
-/
import Derived.Test.YtfbooamjddnagaaDoorRows
import Derived.Test.YtfbooamjddnagaaDoorXText04
import Derived.Test.YtfbooamjddnagaaDoorB02
namespace Go.Proofs.YtfbooamjddnagaaDoor
open Go.ChangeShapes Go.WideShapes Go.ChangeAt Go.RowKit Go.Deep Go.Joins

section
variable {H : Type} {enc : TypeId × Value → H} {P : Program} {w : World} {base : Nat} {spare : Nat → Bool} {held : Bool}

theorem view_pairs {t e fuel ti bytes : Nat} {f0 f1 : Field} {v : Value} {x : DataW H × List MemPlace} (ht : P.underlying t = some (.slice e)) (he : P.underlying e = some (.struct #[f0, f1])) (hc : P.cellsOf e = 2)
    (t0 : f0.type = ti) (t1 : f1.type = ti) (o0 : f0.offset = 0) (o1 : f1.offset = 1)
    (hi : P.underlying ti = some (.int .i64)) (ci : P.cellsOf ti = 1) (hby : P.bytesOf e = bytes)
    (h : DataW.trod enc P w base (fun _ => true) held fuel t [v] = some x) (hw : ∀ y ∈ DataW.weights P t x.1, y ≤ reachBytes) :
    ∃ ao cap l, v = .slice ao l.n cap ∧ PairsAt w ao l ∧ l.n ≤ cap ∧ (ao = none → l.n = 0 ∧ cap = 0) ∧ cap * bytes ≤ reachBytes := by
  rcases open_slice ht h with ⟨hcs, hx⟩ | ⟨a, n, cap, m, fl, D, Pl, hcs, _, hl, hm, hmm, hx, hcell⟩
  · simp at hcs
    subst hcs
    exact ⟨none, 0, ⟨0, fun _ => 0, fun _ => 0⟩, rfl, fun k hk => absurd hk (Nat.not_lt_zero _), Nat.le_refl _, fun _ => ⟨rfl, rfl⟩, by omega⟩
  · simp at hcs
    subst hcs
    rw [if_pos rfl] at hmm
    subst hmm
    have hcap : m * bytes ≤ reachBytes := by
      have := hw ((n + (m - n)) * P.bytesOf e) (by rw [hx]; simp [DataW.weights, ht])
      rw [hby, show n + (m - n) = m by omega] at this
      exact this
    by_cases hn0 : n = 0
    · subst hn0
      exact ⟨some a, m, ⟨0, fun _ => 0, fun _ => 0⟩, rfl, fun k hk => absurd hk (Nat.not_lt_zero _), hl, (fun h => by cases h), hcap⟩
    have hspot : a.spot = none := by
      obtain ⟨cs, hcl, _⟩ := hcell 0 (by omega)
      rw [hc] at hcl
      obtain ⟨_, hlen, hget⟩ := World.cells?_some hcl
      have g0 := hget 0 (by omega)
      rw [List.getElem?_eq_getElem (by omega)] at g0
      have := World.cell?_spot g0
      simpa [Addr.add] using this
    obtain ⟨b, off, spot⟩ := a
    simp only at hspot
    subst hspot
    have key : ∀ k, k < n → ∃ (y : Int × Int), w.cell? ⟨b, off + k * 2, none⟩ = some (.int .i64 y.1) ∧ w.cell? ⟨b, off + k * 2 + 1, none⟩ = some (.int .i64 y.2) := by
      intro k hk
      obtain ⟨cs, hcl, htr⟩ := hcell k (by omega)
      rw [hc] at hcl
      obtain ⟨_, hlen, hget⟩ := World.cells?_some hcl
      obtain ⟨y0, y1, n', _, _, h0, h1⟩ := trod_struct2 he htr
      rw [t0, o0, ci] at h0
      rw [t1, o1, ci] at h1
      match cs, hlen with
      | [p, q], _ =>
        obtain ⟨i0, e0, _, _⟩ := DataW.trod_int hi h0
        obtain ⟨i1, e1, _, _⟩ := DataW.trod_int hi h1
        simp at e0 e1
        subst e0 e1
        have g0 := hget 0 (by omega)
        have g1 := hget 1 (by omega)
        simp only [List.getElem?_cons_zero, List.getElem?_cons_succ, Addr.add_lit, Nat.add_zero] at g0 g1
        exact ⟨(i0, i1), g0, g1⟩
    obtain ⟨f, hf⟩ := choose_lt key
    exact ⟨some ⟨b, off, none⟩, m, ⟨n, fun k => (f k).1, fun k => (f k).2⟩, rfl, fun k hk => ⟨b, off, rfl, hf k hk⟩, hl, (fun h => by cases h), hcap⟩
end

theorem Tryd.own : ownKnob Tryd.prog.godebug = none := by kernel_rfl
theorem Tryd.laidOut : laidOutB Tryd.prog = true := by kernel_rfl
theorem Tryd.cellsInt : Tryd.prog.cellsOf 3 = 1 := by kernel_rfl
theorem Tryd.cellsBool : Tryd.prog.cellsOf 4 = 1 := by kernel_rfl
theorem okWide_slice_is {P : Program} {t e : Nat} {w : World} {r : Reach} {base : Nat} {v : Value} (ht : P.underlying t = some (.slice e)) (h : Value.okWide P w r base t v) : v.cells.toList = [v] := by
  simp only [Value.okWide, ht, Cell.okWide] at h
  cases v <;> simp_all [Cell.ok, Value.cells]

end Go.Proofs.YtfbooamjddnagaaDoor
