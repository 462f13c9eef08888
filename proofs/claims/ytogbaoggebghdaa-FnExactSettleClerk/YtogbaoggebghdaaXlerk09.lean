/-
  OWN TEXT: ViewRw, VAns1.
-/
import Derived.Test.YtogbaoggebghdaaXlerk08
import Derived.Test.YtogbaoggebghdaaB03
import Derived.Test.YtogbaoggebghdaaB04
namespace Go.Proofs.Ytogbaoggebghdaa
open Go.ChangeShapes Go.WideShapes Go.ChangeAt Go.RowKit Go.Deep Go.Joins

theorem Try.cellsRow : Try.prog.cellsOf 115 = 5 := by kernel_rfl
theorem Try.bytesRow : Try.prog.bytesOf 115 = 48 := by kernel_rfl
theorem Try.cellsStrRow : Try.prog.cellsOf 9 = 1 := by kernel_rfl
theorem trod_struct_row {H : Type} {enc : TypeId × Value → H} {P : Program} {w : World} {base : Nat} {spare : Nat → Bool} {held : Bool} {t : TypeId} {f0 f1 f2 f3 f4 : Field} {fuel : Nat} {cs : List Value} {x : DataW H × List MemPlace} (ht : P.underlying t = some (.struct #[f0, f1, f2, f3, f4])) (h : DataW.trod enc P w base spare held fuel t cs = some x) :
    ∃ y0 y1 y2 y3 y4 n, x.1 = .agg [y0.1, y1.1, y2.1, y3.1, y4.1] ∧ DataW.trod enc P w base spare held n f0.type ((cs.drop f0.offset).take (P.cellsOf f0.type)) = some y0 ∧ DataW.trod enc P w base spare held n f1.type ((cs.drop f1.offset).take (P.cellsOf f1.type)) = some y1 ∧ DataW.trod enc P w base spare held n f2.type ((cs.drop f2.offset).take (P.cellsOf f2.type)) = some y2 ∧ DataW.trod enc P w base spare held n f3.type ((cs.drop f3.offset).take (P.cellsOf f3.type)) = some y3 ∧ DataW.trod enc P w base spare held n f4.type ((cs.drop f4.offset).take (P.cellsOf f4.type)) = some y4 := by
  obtain ⟨xs, n, _, rfl, hl, hlen, hf⟩ := DataW.trod_struct ht h
  match xs, hlen with
  | [y0, y1, y2, y3, y4], _ => exact ⟨y0, y1, y2, y3, y4, n, by simp, by simpa using hf 0 f0 rfl, by simpa using hf 1 f1 rfl, by simpa using hf 2 f2 rfl, by simpa using hf 3 f3 rfl, by simpa using hf 4 f4 rfl⟩

set_option maxRecDepth 100000 in
theorem view_rows {H : Type} {enc : TypeId × Value → H} {W : World} {base fuel : Nat} {held : Bool} {v : Value} {x : DataW H × List MemPlace}
    (h : DataW.trod enc Try.prog W base (fun _ => true) held fuel 47 [v] = some x) (hw : ∀ y ∈ DataW.weights Try.prog 47 x.1, y ≤ reachBytes) :
    ∃ ao n cap S, v = .slice ao n cap ∧ MRowsAt W ao n S ∧ SliceOk ao n cap ∧ MRowsShort n S 1000000000000000 := by
  obtain ⟨ao, n, cap, C, rfl, hr, hl, hn, hb, hk⟩ := view_list Try.underlying47 Try.cellsRow (by omega) Try.bytesRow h hw
  have key : ∀ k, k < n → ∃ y : MRow, C k = [.int .i64 y.name, .string y.own, .int .i64 y.pe, .int .i64 y.ln, .int .i64 y.cab] ∧ y.own.size ≤ 1000000000000000 := by
    intro k hk'
    obtain ⟨hlen, fl, z, ht, hz⟩ := hk k hk'
    obtain ⟨y0, y1, y2, y3, y4, m, hx, h0, h1, h2, h3, h4⟩ := trod_struct_row Try.underlying115 ht
    rw [hx] at hz
    simp only [Try.cellsInt, Try.cellsStrRow] at h0 h1 h2 h3 h4
    generalize C k = l at *
    match l, hlen with
    | [p0, p1, p2, p3, p4], _ =>
      obtain ⟨i0, e0, _, _⟩ := DataW.trod_int Try.underlying3 h0
      obtain ⟨i1, e1, x1, _⟩ := DataW.trod_string Try.underlying9 h1
      have w1 : i1.size ≤ reachBytes := hz i1.size (by rw [x1]; simp [DataW.weights, DataW.weightsEach, Try.underlying115])
      unfold reachBytes at w1
      obtain ⟨i2, e2, _, _⟩ := DataW.trod_int Try.underlying3 h2
      obtain ⟨i3, e3, _, _⟩ := DataW.trod_int Try.underlying3 h3
      obtain ⟨i4, e4, _, _⟩ := DataW.trod_int Try.underlying3 h4
      simp at e0 e1 e2 e3 e4
      subst e0 e1 e2 e3 e4
      exact ⟨⟨i0, i1, i2, i3, i4⟩, rfl, (show i1.size ≤ _ by omega)⟩
  obtain ⟨S, hS⟩ := choose_lt key
  refine ⟨ao, n, cap, S, rfl, fun k hk' => ?_, ⟨hl, by unfold reachBytes at hb; omega, hn⟩, by unfold reachBytes at hb; omega, fun k hk' => (hS k hk').2⟩
  obtain ⟨b, off, e, hc⟩ := hr k hk'
  rw [(hS k hk').1] at hc
  exact ⟨b, off, e, hc 0 (by omega), hc 1 (by omega), hc 2 (by omega), hc 3 (by omega), hc 4 (by omega)⟩

end Go.Proofs.Ytogbaoggebghdaa

namespace Go.Proofs.Ytogbaoggebghdaa
open Go.ChangeShapes Go.WideShapes Go.ChangeAt Go.RowKit Go.Deep Go.Joins

theorem Try.cellsAnswer : Try.prog.cellsOf 49 = 4 := by kernel_rfl
theorem Try.cellsRowSAnswer : Try.prog.cellsOf 47 = 1 := by kernel_rfl
theorem trod_struct_answer {H : Type} {enc : TypeId × Value → H} {P : Program} {w : World} {base : Nat} {spare : Nat → Bool} {held : Bool} {t : TypeId} {f0 f1 f2 f3 : Field} {fuel : Nat} {cs : List Value} {x : DataW H × List MemPlace} (ht : P.underlying t = some (.struct #[f0, f1, f2, f3])) (h : DataW.trod enc P w base spare held fuel t cs = some x) :
    ∃ y0 y1 y2 y3 n, x.1 = .agg [y0.1, y1.1, y2.1, y3.1] ∧ cs.length = P.cellsOf t ∧ DataW.trod enc P w base spare held n f0.type ((cs.drop f0.offset).take (P.cellsOf f0.type)) = some y0 ∧ DataW.trod enc P w base spare held n f1.type ((cs.drop f1.offset).take (P.cellsOf f1.type)) = some y1 ∧ DataW.trod enc P w base spare held n f2.type ((cs.drop f2.offset).take (P.cellsOf f2.type)) = some y2 ∧ DataW.trod enc P w base spare held n f3.type ((cs.drop f3.offset).take (P.cellsOf f3.type)) = some y3 := by
  obtain ⟨xs, n, _, rfl, hl, hlen, hf⟩ := DataW.trod_struct ht h
  match xs, hlen with
  | [y0, y1, y2, y3], _ => exact ⟨y0, y1, y2, y3, n, by simp, hl, by simpa using hf 0 f0 rfl, by simpa using hf 1 f1 rfl, by simpa using hf 2 f2 rfl, by simpa using hf 3 f3 rfl⟩
theorem list_answer {α : Type} {cs : List α} (h : cs.length = 4) : ∃ c0 c1 c2 c3, cs = [c0, c1, c2, c3] := by
  match cs, h with
  | [c0, c1, c2, c3], _ => exact ⟨c0, c1, c2, c3, rfl⟩

set_option maxRecDepth 100000 in
set_option maxHeartbeats 1600000 in
/-- The cells of an answer that came in. -/
theorem view_answer {H : Type} {enc : TypeId × Value → H} {W : World} {base fuel : Nat} {held : Bool} {cs : List Value} {x : DataW H × List MemPlace}
    (h : DataW.trod enc Try.prog W base (fun _ => true) held fuel 49 cs = some x) (hw : ∀ y ∈ DataW.weights Try.prog 49 x.1, y ≤ reachBytes) :
    ∃ s : AnsD, AnsD.Is W cs s ∧ AnsD.Short s 1000000000000000 := by
  obtain ⟨y0, y1, y2, y3, n, hx, hl, h0, h1, h2, h3⟩ := trod_struct_answer Try.underlying49 h
  rw [hx] at hw
  rw [Try.cellsAnswer] at hl
  obtain ⟨c0, c1, c2, c3, rfl⟩ := list_answer hl
  simp only [Try.cellsInt, Try.cellsRowSAnswer, List.drop, List.take] at h0 h1 h2 h3
  obtain ⟨v0, e0, _, _⟩ := DataW.trod_int Try.underlying3 h0
  obtain ⟨v1, e1, _, _⟩ := DataW.trod_int Try.underlying3 h1
  obtain ⟨v2, e2, _, _⟩ := DataW.trod_int Try.underlying3 h2
  obtain ⟨arw, nrw, crw, lrw, e3, grw, srw, qrw⟩ := view_rows h3 (fun x hx => hw x (by simp [DataW.weights, DataW.weightsEach, Try.underlying49, hx]))
  simp at e0 e1 e2
  subst e0 e1 e2
  subst e3
  exact ⟨⟨v0, v1, v2, nrw, lrw⟩, ⟨arw, crw, rfl, grw, srw⟩, qrw⟩
instance : Inhabited AnsD := ⟨⟨0, 0, 0, 0, fun _ => MRow.zero⟩⟩

set_option maxRecDepth 100000 in
/-- By value. -/
theorem open_answer {H : Type} {enc : TypeId × Value → H} {W : World} {base : Nat} {v : Value} {d : DataW H} {p : List MemPlace} (hv : Value.okWide Try.prog W .any base 49 v)
    (h : DataW.Trod enc Try.prog W 0 (fun _ => true) true 49 v d p) (hw : ∀ x ∈ DataW.weights Try.prog 49 d, x ≤ reachBytes) :
    ∃ (cs : List Value) (s : AnsD), v = .agg cs.toArray ∧ AnsD.Is W cs s ∧ AnsD.Short s 1000000000000000 := by
  obtain ⟨cs, rfl, _⟩ := okWide_struct Try.underlying49 hv
  obtain ⟨fuel, hf⟩ := h
  obtain ⟨s, h1, h2⟩ := view_answer hf hw
  exact ⟨cs.toList, s, by simp, by simpa [Value.cells] using h1, h2⟩

end Go.Proofs.Ytogbaoggebghdaa
