/-
  OWN TEXT: a list of cabins that came in, opened.
-/
import Derived.Test.YtaalhmaacaahhaiViewP
namespace Go.Proofs.Ytaalhmaacaahhai
open Go.ChangeShapes Go.WideShapes Go.ChangeAt Go.RowKit Go.Deep Go.Joins

theorem Try.cellsCabin : Try.prog.cellsOf 92 = 2 := by kernel_rfl
theorem Try.bytesCabin : Try.prog.bytesOf 92 = 16 := by kernel_rfl

set_option maxRecDepth 100000 in
/-- Cabins that came in, opened. -/
theorem open_cabins {H : Type} {enc : TypeId × Value → H} {W : World} {base : Nat} {v : Value} {d : DataW H} {p : List MemPlace} (hv : Value.okWide Try.prog W .any base 40 v)
    (h : DataW.Trod enc Try.prog W 0 (fun _ => true) true 40 v d p) (hw : ∀ x ∈ DataW.weights Try.prog 40 d, x ≤ reachBytes) :
    ∃ ao n cap l, v = .slice ao n cap ∧ l.n = n ∧ n ≤ 1000000000000000 ∧ PairsAt W ao l := by
  obtain ⟨fuel, hf⟩ := h
  rw [okWide_slice_is Try.underlying40 hv] at hf
  obtain ⟨ao, cap, l, rfl, h1, h2, _, h4⟩ := view_pairs Try.underlying40 Try.underlying92 Try.cellsCabin rfl rfl rfl rfl Try.underlying3 Try.cellsInt Try.bytesCabin hf hw
  unfold reachBytes at h4
  exact ⟨ao, l.n, cap, l, rfl, rfl, by omega, h1⟩

end Go.Proofs.Ytaalhmaacaahhai
