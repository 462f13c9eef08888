/-
  OWN TEXT: an answer that came in, opened.
-/
import Derived.Test.YtogbaoggebghdaaViewRw
import Derived.Test.YtogbaoggebghdaaKitAnswer
namespace Go.Proofs.Ytogbaoggebghdaa
open Go.ChangeShapes Go.WideShapes Go.ChangeAt Go.RowKit Go.Deep Go.Joins

theorem Try.cellsAnswer : Try.prog.cellsOf 49 = 4 := by kernel_rfl
theorem Try.cellsRowSAnswer : Try.prog.cellsOf 47 = 1 := by kernel_rfl
theorem trod_struct_answer {H : Type} {enc : TypeId × Value → H} {P : Program} {w : World} {base : Nat} {spare : Nat → Bool} {held : Bool} {t : TypeId} {f0 f1 f2 f3 : Field} {fuel : Nat} {cs : List Value} {x : DataW H × List MemPlace} (ht : P.underlying t = some (.struct #[f0, f1, f2, f3])) (h : DataW.trod enc P w base spare held fuel t cs = some x) :
    ∃ y0 y1 y2 y3 n, x.1 = .agg [y0.1, y1.1, y2.1, y3.1] ∧ cs.length = P.cellsOf t ∧ DataW.trod enc P w base spare held n f0.type ((cs.drop f0.offset).take (P.cellsOf f0.type)) = some y0 ∧ DataW.trod enc P w base spare held n f1.type ((cs.drop f1.offset).take (P.cellsOf f1.type)) = some y1 ∧ DataW.trod enc P w base spare held n f2.type ((cs.drop f2.offset).take (P.cellsOf f2.type)) = some y2 ∧ DataW.trod enc P w base spare held n f3.type ((cs.drop f3.offset).take (P.cellsOf f3.type)) = some y3 := by
  obtain ⟨xs, n, _, rfl, hl, hlen, hf⟩ := DataW.trod_struct ht h
  match xs, hlen with
  | [y0, y1, y2, y3], _ => exact ⟨y0, y1, y2, y3, n, by simp, hl, by simpa using hf 0 f0 rfl, by simpa using hf 1 f1 rfl, by simpa using hf 2 f2 rfl, by simpa using hf 3 f3 rfl⟩
theorem list_answer {α : Type} {cs : List α} (h : cs.length = 4) : ∃ c0 c1 c2 c3, cs = [c0, c1, c2, c3] := by
  match cs, h with
  | [c0, c1, c2, c3], _ => exact ⟨c0, c1, c2, c3, rfl⟩

set_option maxRecDepth 100000 in
set_option maxHeartbeats 1600000 in
/-- The cells of an answer that came in. -/
theorem view_answer {H : Type} {enc : TypeId × Value → H} {W : World} {base fuel : Nat} {held : Bool} {cs : List Value} {x : DataW H × List MemPlace}
    (h : DataW.trod enc Try.prog W base (fun _ => true) held fuel 49 cs = some x) (hw : ∀ y ∈ DataW.weights Try.prog 49 x.1, y ≤ reachBytes) :
    ∃ s : AnsD, AnsD.Is W cs s ∧ AnsD.Short s 1000000000000000 := by
  obtain ⟨y0, y1, y2, y3, n, hx, hl, h0, h1, h2, h3⟩ := trod_struct_answer Try.underlying49 h
  rw [hx] at hw
  rw [Try.cellsAnswer] at hl
  obtain ⟨c0, c1, c2, c3, rfl⟩ := list_answer hl
  simp only [Try.cellsInt, Try.cellsRowSAnswer, List.drop, List.take] at h0 h1 h2 h3
  obtain ⟨v0, e0, _, _⟩ := DataW.trod_int Try.underlying3 h0
  obtain ⟨v1, e1, _, _⟩ := DataW.trod_int Try.underlying3 h1
  obtain ⟨v2, e2, _, _⟩ := DataW.trod_int Try.underlying3 h2
  obtain ⟨arw, nrw, crw, lrw, e3, grw, srw, qrw⟩ := view_rows h3 (fun x hx => hw x (by simp [DataW.weights, DataW.weightsEach, Try.underlying49, hx]))
  simp at e0 e1 e2
  subst e0 e1 e2
  subst e3
  exact ⟨⟨v0, v1, v2, nrw, lrw⟩, ⟨arw, crw, rfl, grw, srw⟩, qrw⟩
instance : Inhabited AnsD := ⟨⟨0, 0, 0, 0, fun _ => MRow.zero⟩⟩

set_option maxRecDepth 100000 in
/-- By value. -/
theorem open_answer {H : Type} {enc : TypeId × Value → H} {W : World} {base : Nat} {v : Value} {d : DataW H} {p : List MemPlace} (hv : Value.okWide Try.prog W .any base 49 v)
    (h : DataW.Trod enc Try.prog W 0 (fun _ => true) true 49 v d p) (hw : ∀ x ∈ DataW.weights Try.prog 49 d, x ≤ reachBytes) :
    ∃ (cs : List Value) (s : AnsD), v = .agg cs.toArray ∧ AnsD.Is W cs s ∧ AnsD.Short s 1000000000000000 := by
  obtain ⟨cs, rfl, _⟩ := okWide_struct Try.underlying49 hv
  obtain ⟨fuel, hf⟩ := h
  obtain ⟨s, h1, h2⟩ := view_answer hf hw
  exact ⟨cs.toList, s, by simp, by simpa [Value.cells] using h1, h2⟩

end Go.Proofs.Ytogbaoggebghdaa
