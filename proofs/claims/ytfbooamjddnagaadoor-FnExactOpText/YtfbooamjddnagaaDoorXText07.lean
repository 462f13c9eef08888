/-
  OWN TEXT: ViewParty.
-/
import Derived.Test.YtfbooamjddnagaaDoorXText03
import Derived.Test.YtfbooamjddnagaaDoorB05
namespace Go.Proofs.YtfbooamjddnagaaDoor
open Go.ChangeShapes Go.WideShapes Go.ChangeAt Go.RowKit Go.Deep Go.Joins

theorem Tryd.cellsParty : Tryd.prog.cellsOf 24 = 6 := by kernel_rfl
theorem trod_struct6 {H : Type} {enc : TypeId × Value → H} {P : Program} {w : World} {base : Nat} {spare : Nat → Bool} {held : Bool} {t : TypeId} {f0 f1 f2 f3 f4 f5 : Field} {fuel : Nat} {cs : List Value} {x : DataW H × List MemPlace} (ht : P.underlying t = some (.struct #[f0, f1, f2, f3, f4, f5])) (h : DataW.trod enc P w base spare held fuel t cs = some x) :
    ∃ y0 y1 y2 y3 y4 y5 n, cs.length = P.cellsOf t ∧ DataW.trod enc P w base spare held n f0.type ((cs.drop f0.offset).take (P.cellsOf f0.type)) = some y0 ∧ DataW.trod enc P w base spare held n f1.type ((cs.drop f1.offset).take (P.cellsOf f1.type)) = some y1 ∧ DataW.trod enc P w base spare held n f2.type ((cs.drop f2.offset).take (P.cellsOf f2.type)) = some y2 ∧ DataW.trod enc P w base spare held n f3.type ((cs.drop f3.offset).take (P.cellsOf f3.type)) = some y3 ∧ DataW.trod enc P w base spare held n f4.type ((cs.drop f4.offset).take (P.cellsOf f4.type)) = some y4 ∧ DataW.trod enc P w base spare held n f5.type ((cs.drop f5.offset).take (P.cellsOf f5.type)) = some y5 := by
  obtain ⟨xs, n, _, rfl, hl, hlen, hf⟩ := DataW.trod_struct ht h
  match xs, hlen with
  | [y0, y1, y2, y3, y4, y5], _ => exact ⟨y0, y1, y2, y3, y4, y5, n, hl, by simpa using hf 0 f0 rfl, by simpa using hf 1 f1 rfl, by simpa using hf 2 f2 rfl, by simpa using hf 3 f3 rfl, by simpa using hf 4 f4 rfl, by simpa using hf 5 f5 rfl⟩

set_option maxRecDepth 100000 in
theorem open_party {H : Type} {enc : TypeId × Value → H} {W : World} {base : Nat} {v : Value} {d : DataW H} {p : List MemPlace} (hv : Value.okWide Tryd.prog W .any base 24 v)
    (h : DataW.Trod enc Tryd.prog W 0 (fun _ => true) true 24 v d p) : ∃ (pe len hei cl : Int) (all : Bool) (be : Int), v = .agg #[.int .i64 pe, .int .i64 len, .int .i64 hei, .int .i64 cl, .bool all, .int .i64 be] := by
  obtain ⟨cs, rfl, hsz⟩ := okWide_struct Tryd.underlying24 hv
  obtain ⟨fuel, hf⟩ := h
  obtain ⟨y0, y1, y2, y3, y4, y5, n, hl, h0, h1, h2, h3, h4, h5⟩ := trod_struct6 Tryd.underlying24 hf
  simp only [Tryd.cellsInt, Tryd.cellsBool] at h0 h1 h2 h3 h4 h5
  rw [Tryd.cellsParty] at hl
  have hl' : cs.toList.length = 6 := by simpa [Value.cells] using hl
  obtain ⟨l⟩ := cs
  match l, hl' with
  | [p0, p1, p2, p3, p4, p5], _ =>
    simp only [Value.cells] at h0 h1 h2 h3 h4 h5
    obtain ⟨i0, e0, _, _⟩ := DataW.trod_int Tryd.underlying3 h0
    obtain ⟨i1, e1, _, _⟩ := DataW.trod_int Tryd.underlying3 h1
    obtain ⟨i2, e2, _, _⟩ := DataW.trod_int Tryd.underlying3 h2
    obtain ⟨i3, e3, _, _⟩ := DataW.trod_int Tryd.underlying3 h3
    obtain ⟨i4, e4, _⟩ := DataW.trod_bool Tryd.underlying4 h4
    obtain ⟨i5, e5, _, _⟩ := DataW.trod_int Tryd.underlying3 h5
    simp at e0 e1 e2 e3 e4 e5
    subst e0 e1 e2 e3 e4 e5
    exact ⟨i0, i1, i2, i3, i4, i5, rfl⟩

end Go.Proofs.YtfbooamjddnagaaDoor
