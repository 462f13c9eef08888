/-
  OWN TEXT: a list of Seat that came in, opened.
-/
import Derived.Test.YtclcjnbjpelcjajViewP
import Derived.Test.YtclcjnbjpelcjajKitSeat
namespace Go.Proofs.Ytclcjnbjpelcjaj
open Go.ChangeShapes Go.WideShapes Go.ChangeAt Go.RowKit Go.Deep Go.Joins

theorem Try.cellsSeat : Try.prog.cellsOf 40 = 2 := by kernel_rfl
theorem Try.bytesSeat : Try.prog.bytesOf 40 = 16 := by kernel_rfl

theorem trod_struct_seat {H : Type} {enc : TypeId × Value → H} {P : Program} {w : World} {base : Nat} {spare : Nat → Bool} {held : Bool} {t : TypeId} {f0 f1 : Field} {fuel : Nat} {cs : List Value} {x : DataW H × List MemPlace} (ht : P.underlying t = some (.struct #[f0, f1])) (h : DataW.trod enc P w base spare held fuel t cs = some x) :
    ∃ y0 y1 n, DataW.trod enc P w base spare held n f0.type ((cs.drop f0.offset).take (P.cellsOf f0.type)) = some y0 ∧ DataW.trod enc P w base spare held n f1.type ((cs.drop f1.offset).take (P.cellsOf f1.type)) = some y1 := by
  obtain ⟨xs, n, _, rfl, hl, hlen, hf⟩ := DataW.trod_struct ht h
  match xs, hlen with
  | [y0, y1], _ => exact ⟨y0, y1, n, by simpa using hf 0 f0 rfl, by simpa using hf 1 f1 rfl⟩

set_option maxRecDepth 100000 in
set_option maxHeartbeats 800000 in
theorem open_seats {H : Type} {enc : TypeId × Value → H} {W : World} {base : Nat} {v : Value} {d : DataW H} {p : List MemPlace} (hv : Value.okWide Try.prog W .any base 22 v)
    (h : DataW.Trod enc Try.prog W 0 (fun _ => true) true 22 v d p) (hw : ∀ x ∈ DataW.weights Try.prog 22 d, x ≤ reachBytes) :
    ∃ ao n cap S, v = .slice ao n cap ∧ n ≤ 1000000000000000 ∧ SeatsAt W ao n S := by
  obtain ⟨fuel, hf⟩ := h
  rw [okWide_slice_is Try.underlying22 hv] at hf
  rcases open_slice Try.underlying22 hf with ⟨hcs, hx⟩ | ⟨a, n, cap, q, fl, D, Pl, hcs, _, hl, hm, hmm, hx, hcell⟩
  · simp at hcs
    subst hcs
    exact ⟨none, 0, 0, fun _ => Seat.zero, rfl, by omega, fun i hi => by omega⟩
  · simp at hcs
    subst hcs
    rw [if_pos rfl] at hmm
    subst hmm
    simp only [Prod.mk.injEq] at hx
    obtain ⟨rfl, rfl⟩ := hx
    have hcap : q * 16 ≤ reachBytes := by
      have := hw ((n + (q - n)) * Try.prog.bytesOf 40) (by simp [DataW.weights, Try.underlying22])
      rw [Try.bytesSeat, show n + (q - n) = q by omega] at this
      exact this
    unfold reachBytes at hcap
    by_cases hn0 : n = 0
    · subst hn0
      exact ⟨some a, 0, q, fun _ => Seat.zero, rfl, by omega, fun i hi => by omega⟩
    have hspot : a.spot = none := by
      obtain ⟨cs, hcl, _⟩ := hcell 0 (by omega)
      rw [Try.cellsSeat] at hcl
      obtain ⟨_, hlen, hget⟩ := World.cells?_some hcl
      have g0 := hget 0 (by omega)
      rw [List.getElem?_eq_getElem (by omega)] at g0
      have := World.cell?_spot g0
      simpa [Addr.add] using this
    obtain ⟨b, off, spot⟩ := a
    simp only at hspot
    subst hspot
    have key : ∀ k, k < n → ∃ (y : Seat), W.cell? ⟨b, off + k * 2, none⟩ = some (.int .i64 y.who) ∧ W.cell? ⟨b, off + k * 2 + 1, none⟩ = some (.int .i64 y.many) := by
      intro k hk
      obtain ⟨cs, hcl, htr⟩ := hcell k (by omega)
      rw [Try.cellsSeat] at hcl
      obtain ⟨_, hlen, hget⟩ := World.cells?_some hcl
      obtain ⟨y0, y1, n', h0, h1⟩ := trod_struct_seat Try.underlying40 htr
      simp only [Try.cellsInt] at h0 h1
      match cs, hlen with
      | [p0, p1], _ =>
        obtain ⟨i0, e0, _, _⟩ := DataW.trod_int Try.underlying3 h0
        obtain ⟨i1, e1, _, _⟩ := DataW.trod_int Try.underlying3 h1
        simp at e0 e1
        subst e0 e1
        have g0 := hget 0 (by omega)
        have g1 := hget 1 (by omega)
        simp only [List.getElem?_cons_zero, List.getElem?_cons_succ, Addr.add_lit, Nat.add_zero] at g0 g1
        exact ⟨⟨i0, i1⟩, g0, g1⟩
    obtain ⟨f, hf⟩ := choose_lt key
    exact ⟨some ⟨b, off, none⟩, n, q, f, rfl, by omega, fun k hk => ⟨b, off, rfl, hf k hk⟩⟩

end Go.Proofs.Ytclcjnbjpelcjaj
