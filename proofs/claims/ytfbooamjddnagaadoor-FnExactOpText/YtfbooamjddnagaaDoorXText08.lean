/-
  OWN TEXT: VOp.
-/
import Derived.Test.YtfbooamjddnagaaDoorXText06
import Derived.Test.YtfbooamjddnagaaDoorXText07
import Derived.Test.YtfbooamjddnagaaDoorB07
namespace Go.Proofs.YtfbooamjddnagaaDoor
open Go.ChangeShapes Go.WideShapes Go.ChangeAt Go.RowKit Go.Deep Go.Joins

theorem Tryd.cellsOp : Tryd.prog.cellsOf 26 = 12 := by kernel_rfl
theorem Tryd.cellsIntSOp : Tryd.prog.cellsOf 22 = 1 := by kernel_rfl
theorem Tryd.cellsStrOp : Tryd.prog.cellsOf 9 = 1 := by kernel_rfl
theorem trod_struct_op {H : Type} {enc : TypeId × Value → H} {P : Program} {w : World} {base : Nat} {spare : Nat → Bool} {held : Bool} {t : TypeId} {f0 f1 f2 f3 f4 f5 f6 : Field} {fuel : Nat} {cs : List Value} {x : DataW H × List MemPlace} (ht : P.underlying t = some (.struct #[f0, f1, f2, f3, f4, f5, f6])) (h : DataW.trod enc P w base spare held fuel t cs = some x) :
    ∃ y0 y1 y2 y3 y4 y5 y6 n, x.1 = .agg [y0.1, y1.1, y2.1, y3.1, y4.1, y5.1, y6.1] ∧ cs.length = P.cellsOf t ∧ DataW.trod enc P w base spare held n f0.type ((cs.drop f0.offset).take (P.cellsOf f0.type)) = some y0 ∧ DataW.trod enc P w base spare held n f1.type ((cs.drop f1.offset).take (P.cellsOf f1.type)) = some y1 ∧ DataW.trod enc P w base spare held n f2.type ((cs.drop f2.offset).take (P.cellsOf f2.type)) = some y2 ∧ DataW.trod enc P w base spare held n f3.type ((cs.drop f3.offset).take (P.cellsOf f3.type)) = some y3 ∧ DataW.trod enc P w base spare held n f4.type ((cs.drop f4.offset).take (P.cellsOf f4.type)) = some y4 ∧ DataW.trod enc P w base spare held n f5.type ((cs.drop f5.offset).take (P.cellsOf f5.type)) = some y5 ∧ DataW.trod enc P w base spare held n f6.type ((cs.drop f6.offset).take (P.cellsOf f6.type)) = some y6 := by
  obtain ⟨xs, n, _, rfl, hl, hlen, hf⟩ := DataW.trod_struct ht h
  match xs, hlen with
  | [y0, y1, y2, y3, y4, y5, y6], _ => exact ⟨y0, y1, y2, y3, y4, y5, y6, n, by simp, hl, by simpa using hf 0 f0 rfl, by simpa using hf 1 f1 rfl, by simpa using hf 2 f2 rfl, by simpa using hf 3 f3 rfl, by simpa using hf 4 f4 rfl, by simpa using hf 5 f5 rfl, by simpa using hf 6 f6 rfl⟩
theorem list_op {α : Type} {cs : List α} (h : cs.length = 12) : ∃ c0 c1 c2 c3 c4 c5 c6 c7 c8 c9 c10 c11, cs = [c0, c1, c2, c3, c4, c5, c6, c7, c8, c9, c10, c11] := by
  match cs, h with
  | [c0, c1, c2, c3, c4, c5, c6, c7, c8, c9, c10, c11], _ => exact ⟨c0, c1, c2, c3, c4, c5, c6, c7, c8, c9, c10, c11, rfl⟩

set_option maxRecDepth 100000 in
set_option maxHeartbeats 1600000 in
/-- The cells of an operation that came in. -/
theorem view_op {H : Type} {enc : TypeId × Value → H} {W : World} {base fuel : Nat} {held : Bool} {cs : List Value} {x : DataW H × List MemPlace}
    (h : DataW.trod enc Tryd.prog W base (fun _ => true) held fuel 26 cs = some x) (hw : ∀ y ∈ DataW.weights Tryd.prog 26 x.1, y ≤ reachBytes) :
    ∃ s : OpD, OpD.Is W cs s ∧ OpD.Short s 1000000000000000 := by
  obtain ⟨y0, y1, y2, y3, y4, y5, y6, n, hx, hl, h0, h1, h2, h3, h4, h5, h6⟩ := trod_struct_op Tryd.underlying26 h
  rw [hx] at hw
  rw [Tryd.cellsOp] at hl
  obtain ⟨c0, c1, c2, c3, c4, c5, c6, c7, c8, c9, c10, c11, rfl⟩ := list_op hl
  simp only [Tryd.cellsInt, Tryd.cellsStrOp, Tryd.cellsIntSOp, Tryd.cellsParty, List.drop, List.take] at h0 h1 h2 h3 h4 h5 h6
  obtain ⟨v0, e0, _, _⟩ := DataW.trod_int Tryd.underlying3 h0
  obtain ⟨v1, e1, x1, _⟩ := DataW.trod_string Tryd.underlying9 h1
  have w1 : v1.size ≤ reachBytes := hw v1.size (by rw [x1]; simp [DataW.weights, DataW.weightsEach, Tryd.underlying26])
  unfold reachBytes at w1
  obtain ⟨v2, e2, _, _⟩ := DataW.trod_int Tryd.underlying3 h2
  obtain ⟨alg, nlg, clg, llg, e3, glg, slg, nlgs⟩ := view_ints' h3 (fun x hx => hw x (by simp [DataW.weights, DataW.weightsEach, Tryd.underlying26, hx]))
  obtain ⟨p0, p1, p2, p3, p4, p5, m, _, k0, k1, k2, k3, k4, k5⟩ := trod_struct6 Tryd.underlying24 h4
  simp only [Tryd.cellsInt, Tryd.cellsBool, List.drop, List.take] at k0 k1 k2 k3 k4 k5
  obtain ⟨v4, e4, _, _⟩ := DataW.trod_int Tryd.underlying3 k0
  obtain ⟨v5, e5, _, _⟩ := DataW.trod_int Tryd.underlying3 k1
  obtain ⟨v6, e6, _, _⟩ := DataW.trod_int Tryd.underlying3 k2
  obtain ⟨v7, e7, _, _⟩ := DataW.trod_int Tryd.underlying3 k3
  obtain ⟨v8, e8, _⟩ := DataW.trod_bool Tryd.underlying4 k4
  obtain ⟨v9, e9, _, _⟩ := DataW.trod_int Tryd.underlying3 k5
  obtain ⟨v10, e10, _, _⟩ := DataW.trod_int Tryd.underlying3 h5
  obtain ⟨v11, e11, _, _⟩ := DataW.trod_int Tryd.underlying3 h6
  simp at e0 e1 e2 e4 e5 e6 e7 e8 e9 e10 e11
  subst e0 e1 e2 e4 e5 e6 e7 e8 e9 e10 e11
  subst e3
  exact ⟨⟨v0, v1, v2, nlg, llg, v4, v5, v6, v7, v8, v9, v10, v11⟩, ⟨alg, clg, rfl, glg, slg⟩, ⟨(show v1.size ≤ _ by omega), (show nlg ≤ _ from nlgs)⟩⟩

set_option maxRecDepth 100000 in
/-- By value. -/
theorem open_op {H : Type} {enc : TypeId × Value → H} {W : World} {base : Nat} {v : Value} {d : DataW H} {p : List MemPlace} (hv : Value.okWide Tryd.prog W .any base 26 v)
    (h : DataW.Trod enc Tryd.prog W 0 (fun _ => true) true 26 v d p) (hw : ∀ x ∈ DataW.weights Tryd.prog 26 d, x ≤ reachBytes) :
    ∃ (cs : List Value) (s : OpD), v = .agg cs.toArray ∧ OpD.Is W cs s ∧ OpD.Short s 1000000000000000 := by
  obtain ⟨cs, rfl, _⟩ := okWide_struct Tryd.underlying26 hv
  obtain ⟨fuel, hf⟩ := h
  obtain ⟨s, h1, h2⟩ := view_op hf hw
  exact ⟨cs.toList, s, by simp, by simpa [Value.cells] using h1, h2⟩

end Go.Proofs.YtfbooamjddnagaaDoor
