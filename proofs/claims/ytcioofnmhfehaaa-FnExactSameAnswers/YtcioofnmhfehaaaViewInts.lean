/-
  OWN TEXT: a list of numbers that came in, opened.
-/
import Derived.Test.YtcioofnmhfehaaaViewP
namespace Go.Proofs.Ytcioofnmhfehaaa
open Go.ChangeShapes Go.WideShapes Go.ChangeAt Go.RowKit Go.Deep Go.Joins

theorem Try.bytesInt : Try.prog.bytesOf 3 = 8 := by kernel_rfl
set_option maxRecDepth 100000 in
theorem open_ints_arg {H : Type} {enc : TypeId × Value → H} {W : World} {base : Nat} {v : Value} {d : DataW H} {p : List MemPlace} (hv : Value.okWide Try.prog W .any base 24 v)
    (h : DataW.Trod enc Try.prog W 0 (fun _ => true) true 24 v d p) (hw : ∀ x ∈ DataW.weights Try.prog 24 d, x ≤ reachBytes) :
    ∃ ao n c F, v = .slice ao n c ∧ n ≤ 1000000000000000 ∧ IntsAt W ao n F := by
  obtain ⟨fuel, hf⟩ := h
  rw [okWide_slice_is Try.underlying24 hv] at hf
  obtain ⟨ao, n, c, F, rfl, _, _, _, hi, hl⟩ := view_ints Try.underlying24 Try.underlying3 Try.cellsInt hf
  have r := len_reach Try.underlying24 Try.bytesInt hl hw
  unfold reachBytes at r
  exact ⟨ao, n, c, F, rfl, by omega, hi⟩

end Go.Proofs.Ytcioofnmhfehaaa
