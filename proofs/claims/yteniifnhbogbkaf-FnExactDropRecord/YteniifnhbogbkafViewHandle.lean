/-
  OWN TEXT: a handle that came in, opened.
-/
import Derived.Test.YteniifnhbogbkafViewArena
namespace Go.Proofs.Yteniifnhbogbkaf
open Go.ChangeShapes Go.WideShapes Go.ChangeAt Go.RowKit Go.Deep Go.Joins

theorem Try.cellsHandle : Try.prog.cellsOf 27 = 2 := by kernel_rfl
theorem open_handle {H : Type} {enc : TypeId × Value → H} {W : World} {base : Nat} {v : Value} {d : DataW H} {p : List MemPlace} (hv : Value.okWide Try.prog W .any base 27 v)
    (h : DataW.Trod enc Try.prog W 0 (fun _ => true) true 27 v d p) : ∃ x a : Int, v = .agg #[.int .i64 x, .int .i64 a] := by
  obtain ⟨v0, v1, y0, y1, fl, rfl, rfl, rfl, h0, h1⟩ := open_agg2 Try.underlying27 (by kernel_rfl) Try.cellsHandle hv h
  obtain ⟨x, e0, _, _⟩ := DataW.trod_int Try.underlying3 h0
  obtain ⟨a, e1, _, _⟩ := DataW.trod_int Try.underlying3 h1
  simp at e0 e1
  subst e0 e1
  exact ⟨x, a, rfl⟩

end Go.Proofs.Yteniifnhbogbkaf
