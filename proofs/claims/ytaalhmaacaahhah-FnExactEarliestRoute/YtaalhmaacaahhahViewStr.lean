/-
  OWN TEXT: a text that came in.
-/
import Derived.Test.YtaalhmaacaahhahViewInts
namespace Go.Proofs.Ytaalhmaacaahhah
open Go.ChangeShapes Go.WideShapes Go.ChangeAt Go.RowKit Go.Deep Go.Joins

set_option maxRecDepth 100000 in
theorem open_text {H : Type} {enc : TypeId × Value → H} {W : World} {base : Nat} {v : Value} {d : DataW H} {p : List MemPlace} (hv : Value.okWide Try.prog W .any base 9 v)
    (h : DataW.Trod enc Try.prog W 0 (fun _ => true) true 9 v d p) (hw : ∀ x ∈ DataW.weights Try.prog 9 d, x ≤ reachBytes) :
    ∃ s, v = .string s ∧ s.size ≤ 1000000000000000 := by
  obtain ⟨s, rfl⟩ := okWide_string Try.underlying9 hv
  obtain ⟨fuel, hf⟩ := h
  obtain ⟨s1, e1, x1, _⟩ := DataW.trod_string Try.underlying9 hf
  simp [Value.cells] at e1
  subst e1
  obtain ⟨rfl, rfl⟩ := Prod.mk.inj x1
  have w1 : s.size ≤ reachBytes := hw s.size (by simp [DataW.weights])
  exact ⟨s, rfl, by unfold reachBytes at w1; omega⟩

end Go.Proofs.Ytaalhmaacaahhah
