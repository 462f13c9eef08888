/-
  OWN TEXT: LaidF.
-/
import Derived.ProofKit
import Derived.OpenShut
import Derived.LaidMore
import Derived.WalkSmall
import Derived.Lib.LaidTab
import Derived.Deep.DeepHandedRow
import Derived.Test.YtfbooamjddnagaaDoorB08
namespace Go.Proofs.YtfbooamjddnagaaDoor
open Go.ChangeShapes Go.WideShapes Go.ChangeAt Go.RowKit

theorem Tryd.gForms : Tryd.prog.globalNamed "loop.example/g00084/impl.opForms" = some 0 := by kernel_rfl
theorem Tryd.gFormsType : (Tryd.prog.globals[0]?).map (·.type) = some 101 := by kernel_rfl
theorem Tryd.cellsF10 : Tryd.prog.cellsOf 101 = 70 := by kernel_rfl
theorem Tryd.cellsForm : Tryd.prog.cellsOf 100 = 7 := by kernel_rfl
theorem Tryd.cellsInt1 : Tryd.prog.cellsOf 3 = 1 := by kernel_rfl
theorem Tryd.cellsBool1 : Tryd.prog.cellsOf 4 = 1 := by kernel_rfl

set_option maxHeartbeats 1600000 in
set_option maxRecDepth 100000 in
/-- A form read as its seven fields is those seven cells. -/
theorem form_of {H : Type} {enc : TypeId × Value → H} {W : World} {base : Nat} {spare : Nat → Bool} {held : Bool} {m : Nat} {l : List Value} {x : DataW H × List MemPlace} {a0 a1 : Bool} {i : Int} {a3 a4 a5 a6 : Bool}
    (h : DataW.trod enc Tryd.prog W base spare held m 100 l = some x) (hx : x.1 = .agg [.lit (.bool a0), .lit (.bool a1), .lit (.int .i64 i), .lit (.bool a3), .lit (.bool a4), .lit (.bool a5), .lit (.bool a6)]) :
    l = [.bool a0, .bool a1, .int .i64 i, .bool a3, .bool a4, .bool a5, .bool a6] := by
  obtain ⟨xs, n, _, rfl, hl, hlen, hf⟩ := DataW.trod_struct Tryd.underlying100 h
  rw [Tryd.cellsForm] at hl
  match xs, hlen, l, hl with
  | [y0, y1, y2, y3, y4, y5, y6], _, [c0, c1, c2, c3, c4, c5, c6], _ =>
    have g0 := hf 0 _ rfl
    have g1 := hf 1 _ rfl
    have g2 := hf 2 _ rfl
    have g3 := hf 3 _ rfl
    have g4 := hf 4 _ rfl
    have g5 := hf 5 _ rfl
    have g6 := hf 6 _ rfl
    simp [Tryd.cellsInt1, Tryd.cellsBool1] at g0 g1 g2 g3 g4 g5 g6
    obtain ⟨k0, e0, p0⟩ := DataW.trod_bool Tryd.underlying4 g0
    obtain ⟨k1, e1, p1⟩ := DataW.trod_bool Tryd.underlying4 g1
    obtain ⟨k2, e2, p2, _⟩ := DataW.trod_int Tryd.underlying3 g2
    obtain ⟨k3, e3, p3⟩ := DataW.trod_bool Tryd.underlying4 g3
    obtain ⟨k4, e4, p4⟩ := DataW.trod_bool Tryd.underlying4 g4
    obtain ⟨k5, e5, p5⟩ := DataW.trod_bool Tryd.underlying4 g5
    obtain ⟨k6, e6, p6⟩ := DataW.trod_bool Tryd.underlying4 g6
    simp [p0, p1, p2, p3, p4, p5, p6] at hx
    simp at e0 e1 e2 e3 e4 e5 e6
    obtain ⟨rfl, rfl, rfl, rfl, rfl, rfl, rfl⟩ := hx
    rw [e0, e1, e2, e3, e4, e5, e6]

theorem row_cell {l : List Value} {k j : Nat} (hj : j < 7) (r : List Value) (h : (l.drop (k * 7)).take 7 = r) : l[k * 7 + j]? = r[j]? := by
  rw [← h, List.getElem?_take, if_pos hj, List.getElem?_drop]

set_option maxHeartbeats 3200000 in
set_option maxRecDepth 100000 in
theorem forms_of {H : Type} {enc : TypeId × Value → H} {W : World} {base : Nat} {spare : Nat → Bool} {held : Bool} {fuel : Nat} {p : List MemPlace} {cs : Array Value}
    (hv : W.var? Tryd.prog "loop.example/g00084/impl.opForms" = some cs)
    (hd : DataW.trod enc Tryd.prog W base spare held fuel 101 cs.toList = some (Rows.laid_loop_example_g00084_impl_opForms, p)) : FormsAt W := by
  obtain ⟨xs, m, _, hx, hlen, hn, hel⟩ := DataW.trod_array Tryd.underlying101 hd
  rw [Tryd.cellsF10] at hlen
  rw [Tryd.cellsForm] at hel
  have cell := World.var?_cell Tryd.gForms hv
  obtain ⟨l⟩ := cs
  simp only [Prod.mk.injEq] at hx
  have hx := hx.1
  match xs, hn with
  | [x0, x1, x2, x3, x4, x5, x6, x7, x8, x9], _ =>
    simp [Rows.laid_loop_example_g00084_impl_opForms] at hx
    obtain ⟨q0, q1, q2, q3, q4, q5, q6, q7, q8, q9⟩ := hx
    intro k hk
    have key : ∀ r : List Value, (l.drop (k * 7)).take 7 = r → ∀ j, j < 7 → W.cell? ⟨0, k * 7 + j, none⟩ = r[j]? := fun r h j hj => by
      have := cell (k * 7 + j)
      simp at this
      rw [this]
      exact row_cell hj r h
    have hc : k = 0 ∨ k = 1 ∨ k = 2 ∨ k = 3 ∨ k = 4 ∨ k = 5 ∨ k = 6 ∨ k = 7 ∨ k = 8 ∨ k = 9 := by omega
    rcases hc with rfl | rfl | rfl | rfl | rfl | rfl | rfl | rfl | rfl | rfl
    · have hr := form_of (hel 0 (by decide)) q0.symm
      have kk := key _ hr
      exact ⟨kk 0 (by decide), kk 1 (by decide), kk 2 (by decide), kk 3 (by decide), kk 4 (by decide), kk 5 (by decide), kk 6 (by decide)⟩
    · have hr := form_of (hel 1 (by decide)) q1.symm
      have kk := key _ hr
      exact ⟨kk 0 (by decide), kk 1 (by decide), kk 2 (by decide), kk 3 (by decide), kk 4 (by decide), kk 5 (by decide), kk 6 (by decide)⟩
    · have hr := form_of (hel 2 (by decide)) q2.symm
      have kk := key _ hr
      exact ⟨kk 0 (by decide), kk 1 (by decide), kk 2 (by decide), kk 3 (by decide), kk 4 (by decide), kk 5 (by decide), kk 6 (by decide)⟩
    · have hr := form_of (hel 3 (by decide)) q3.symm
      have kk := key _ hr
      exact ⟨kk 0 (by decide), kk 1 (by decide), kk 2 (by decide), kk 3 (by decide), kk 4 (by decide), kk 5 (by decide), kk 6 (by decide)⟩
    · have hr := form_of (hel 4 (by decide)) q4.symm
      have kk := key _ hr
      exact ⟨kk 0 (by decide), kk 1 (by decide), kk 2 (by decide), kk 3 (by decide), kk 4 (by decide), kk 5 (by decide), kk 6 (by decide)⟩
    · have hr := form_of (hel 5 (by decide)) q5.symm
      have kk := key _ hr
      exact ⟨kk 0 (by decide), kk 1 (by decide), kk 2 (by decide), kk 3 (by decide), kk 4 (by decide), kk 5 (by decide), kk 6 (by decide)⟩
    · have hr := form_of (hel 6 (by decide)) q6.symm
      have kk := key _ hr
      exact ⟨kk 0 (by decide), kk 1 (by decide), kk 2 (by decide), kk 3 (by decide), kk 4 (by decide), kk 5 (by decide), kk 6 (by decide)⟩
    · have hr := form_of (hel 7 (by decide)) q7.symm
      have kk := key _ hr
      exact ⟨kk 0 (by decide), kk 1 (by decide), kk 2 (by decide), kk 3 (by decide), kk 4 (by decide), kk 5 (by decide), kk 6 (by decide)⟩
    · have hr := form_of (hel 8 (by decide)) q8.symm
      have kk := key _ hr
      exact ⟨kk 0 (by decide), kk 1 (by decide), kk 2 (by decide), kk 3 (by decide), kk 4 (by decide), kk 5 (by decide), kk 6 (by decide)⟩
    · have hr := form_of (hel 9 (by decide)) q9.symm
      have kk := key _ hr
      exact ⟨kk 0 (by decide), kk 1 (by decide), kk 2 (by decide), kk 3 (by decide), kk 4 (by decide), kk 5 (by decide), kk 6 (by decide)⟩

theorem laid_forms {W : World} (h : laidMetH Tryd.prog [("loop.example/g00084/impl.opForms", Rows.laid_loop_example_g00084_impl_opForms)] W) : FormsAt W := by
  rw [MakeChecks.laidMetH_plain _ _ _ (by kernel_rfl)] at h
  obtain ⟨ps, ⟨g0, t0, cs0, f0, p0, q0, hg0, ht0, hv0, hd0, _⟩, _, _⟩ := h
  obtain rfl := Option.some.inj (Tryd.gForms.symm.trans hg0)
  obtain rfl := Option.some.inj (Tryd.gFormsType.symm.trans ht0)
  exact forms_of hv0 hd0

end Go.Proofs.YtfbooamjddnagaaDoor
