/-
  OWN TEXT: a list of sailings that came in, opened.
-/
import Derived.Test.YtlnadbnoemlpeaaViewSail
import Derived.Test.YtlnadbnoemlpeaaLSails
namespace Go.Proofs.Ytlnadbnoemlpeaa
open Go.ChangeShapes Go.WideShapes Go.ChangeAt Go.RowKit Go.Deep Go.Joins

theorem Try.bytesSailing : Try.prog.bytesOf 41 = 112 := by kernel_rfl
set_option maxRecDepth 100000 in
set_option maxHeartbeats 800000 in
/-- Sailings that came in, opened. -/
theorem open_sails {H : Type} {enc : TypeId × Value → H} {W : World} {base : Nat} {v : Value} {d : DataW H} {p : List MemPlace} (hv : Value.okWide Try.prog W .any base 22 v)
    (h : DataW.Trod enc Try.prog W 0 (fun _ => true) true 22 v d p) (hw : ∀ x ∈ DataW.weights Try.prog 22 d, x ≤ reachBytes) :
    ∃ ao N cap S, v = .slice ao N cap ∧ N ≤ 1000000000000000 ∧ ShortAll N S 1000000000000000 ∧ SailsAt W ao N S := by
  obtain ⟨fuel, hf⟩ := h
  rw [okWide_slice_is Try.underlying22 hv] at hf
  rcases open_slice Try.underlying22 hf with ⟨hcs, hx⟩ | ⟨a, n, cap, m, fl, D, Pl, hcs, _, hl, hm, hmm, hx, hcell⟩
  · simp at hcs
    subst hcs
    exact ⟨none, 0, 0, fun _ => Sail.zero, rfl, by omega, fun i hi => by omega, fun i hi => by omega⟩
  · simp at hcs
    subst hcs
    rw [if_pos rfl] at hmm
    subst hmm
    simp only [Prod.mk.injEq] at hx
    obtain ⟨rfl, rfl⟩ := hx
    have hcap : m * 112 ≤ reachBytes := by
      have := hw ((n + (m - n)) * Try.prog.bytesOf 41) (by simp [DataW.weights, Try.underlying22])
      rw [Try.bytesSailing, show n + (m - n) = m by omega] at this
      exact this
    unfold reachBytes at hcap
    by_cases hn0 : n = 0
    · subst hn0
      exact ⟨some a, 0, m, fun _ => Sail.zero, rfl, by omega, fun i hi => by omega, fun i hi => by omega⟩
    have hspot : a.spot = none := by
      obtain ⟨cs, hcl, _⟩ := hcell 0 (by omega)
      rw [Try.cellsSailing] at hcl
      obtain ⟨_, hlen, hget⟩ := World.cells?_some hcl
      have g0 := hget 0 (by omega)
      rw [List.getElem?_eq_getElem (by omega)] at g0
      have := World.cell?_spot g0
      simpa [Addr.add] using this
    obtain ⟨b, off, spot⟩ := a
    simp only at hspot
    subst hspot
    have key : ∀ k, k < n → ∃ (s : Sail), ShortS s 1000000000000000 ∧ ∃ la lc ca cc, W.cell? ⟨b, off + k * 8, none⟩ = some (.int .i64 s.id) ∧ W.cell? ⟨b, off + k * 8 + 1, none⟩ = some (.string s.fr) ∧
        W.cell? ⟨b, off + k * 8 + 2, none⟩ = some (.string s.dst) ∧ W.cell? ⟨b, off + k * 8 + 3, none⟩ = some (.int .i64 s.dep) ∧ W.cell? ⟨b, off + k * 8 + 4, none⟩ = some (.int .i64 s.arr) ∧
        W.cell? ⟨b, off + k * 8 + 5, none⟩ = some (.slice la s.la.n lc) ∧ W.cell? ⟨b, off + k * 8 + 6, none⟩ = some (.slice ca s.ca.n cc) ∧ W.cell? ⟨b, off + k * 8 + 7, none⟩ = some (.int .i64 s.most) ∧
        PairsAt W la s.la ∧ PairsAt W ca s.ca ∧ SliceOk la s.la.n lc ∧ SliceOk ca s.ca.n cc := by
      intro k hk
      obtain ⟨cs, hcl, htr⟩ := hcell k (by omega)
      have hwk : ∀ x ∈ DataW.weights Try.prog 41 (D k), x ≤ reachBytes := by
        intro x hx
        refine hw x ?_
        have : D k ∈ (List.range n).map D := List.mem_map.2 ⟨k, List.mem_range.2 hk, rfl⟩
        have := weightsAll_mem this hx
        simp [DataW.weights, Try.underlying22, this]
      rw [Try.cellsSailing] at hcl
      obtain ⟨_, hlen, hget⟩ := World.cells?_some hcl
      obtain ⟨s, la, lc, ca, cc, rfl, h1, h2, h3, h4, h5⟩ := view_sail htr hwk
      have g0 := hget 0 (by omega)
      have g1 := hget 1 (by omega)
      have g2 := hget 2 (by omega)
      have g3 := hget 3 (by omega)
      have g4 := hget 4 (by omega)
      have g5 := hget 5 (by omega)
      have g6 := hget 6 (by omega)
      have g7 := hget 7 (by omega)
      simp only [List.getElem?_cons_zero, List.getElem?_cons_succ, Addr.add_lit, Nat.add_zero] at g0 g1 g2 g3 g4 g5 g6 g7
      exact ⟨s, h5, la, lc, ca, cc, g0, g1, g2, g3, g4, g5, g6, g7, h1, h2, h3, h4⟩
    obtain ⟨f, hf⟩ := choose_lt key
    refine ⟨some ⟨b, off, none⟩, n, m, f, rfl, by omega, fun k hk => (hf k hk).1, fun k hk => ?_⟩
    obtain ⟨la, lc, ca, cc, g⟩ := (hf k hk).2
    exact ⟨b, off, la, lc, ca, cc, rfl, g⟩

end Go.Proofs.Ytlnadbnoemlpeaa
