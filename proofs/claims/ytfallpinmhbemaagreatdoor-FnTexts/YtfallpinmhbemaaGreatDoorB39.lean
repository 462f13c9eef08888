/-
  OWN TEXT: LaidF, LaidT, LaidS, LaidTx, PTexts (the last: FnTexts holds, at every argument, with no condition).
-/
import Derived.ProofKit
import Derived.OpenShut
import Derived.LaidMore
import Derived.WalkSmall
import Derived.Lib.LaidTab
import Derived.Deep.DeepHandedRow
import Derived.Test.YtfallpinmhbemaaGreatDoorCards
import Derived.Test.YtfallpinmhbemaaGreatDoorTie
import Derived.OpenVars
import Derived.SevenTiedAt
import Derived.Test.YtfallpinmhbemaaGreatDoorB28
import Derived.Test.YtfallpinmhbemaaGreatDoorB31
import Derived.Test.YtfallpinmhbemaaGreatDoorB33
import Derived.Test.YtfallpinmhbemaaGreatDoorB38
namespace Go.Proofs.YtfallpinmhbemaaGreatDoor
open Go.ChangeShapes Go.WideShapes Go.ChangeAt Go.RowKit

theorem Tryz.gForms : Tryz.prog.globalNamed "loop.example/g00084/impl.opForms" = some 0 := by kernel_rfl
theorem Tryz.gFormsType : (Tryz.prog.globals[0]?).map (·.type) = some 70 := by kernel_rfl
theorem Tryz.cellsF10 : Tryz.prog.cellsOf 70 = 70 := by kernel_rfl
theorem Tryz.cellsForm : Tryz.prog.cellsOf 69 = 7 := by kernel_rfl
theorem Tryz.cellsInt1 : Tryz.prog.cellsOf 3 = 1 := by kernel_rfl
theorem Tryz.cellsBool1 : Tryz.prog.cellsOf 4 = 1 := by kernel_rfl

set_option maxHeartbeats 1600000 in
set_option maxRecDepth 100000 in
/-- A form read as its seven fields is those seven cells. -/
theorem form_of {H : Type} {enc : TypeId × Value → H} {W : World} {base : Nat} {spare : Nat → Bool} {held : Bool} {m : Nat} {l : List Value} {x : DataW H × List MemPlace} {a0 a1 : Bool} {i : Int} {a3 a4 a5 a6 : Bool}
    (h : DataW.trod enc Tryz.prog W base spare held m 69 l = some x) (hx : x.1 = .agg [.lit (.bool a0), .lit (.bool a1), .lit (.int .i64 i), .lit (.bool a3), .lit (.bool a4), .lit (.bool a5), .lit (.bool a6)]) :
    l = [.bool a0, .bool a1, .int .i64 i, .bool a3, .bool a4, .bool a5, .bool a6] := by
  obtain ⟨xs, n, _, rfl, hl, hlen, hf⟩ := DataW.trod_struct Tryz.underlying69 h
  rw [Tryz.cellsForm] at hl
  match xs, hlen, l, hl with
  | [y0, y1, y2, y3, y4, y5, y6], _, [c0, c1, c2, c3, c4, c5, c6], _ =>
    have g0 := hf 0 _ rfl
    have g1 := hf 1 _ rfl
    have g2 := hf 2 _ rfl
    have g3 := hf 3 _ rfl
    have g4 := hf 4 _ rfl
    have g5 := hf 5 _ rfl
    have g6 := hf 6 _ rfl
    simp [Tryz.cellsInt1, Tryz.cellsBool1] at g0 g1 g2 g3 g4 g5 g6
    obtain ⟨k0, e0, p0⟩ := DataW.trod_bool Tryz.underlying4 g0
    obtain ⟨k1, e1, p1⟩ := DataW.trod_bool Tryz.underlying4 g1
    obtain ⟨k2, e2, p2, _⟩ := DataW.trod_int Tryz.underlying3 g2
    obtain ⟨k3, e3, p3⟩ := DataW.trod_bool Tryz.underlying4 g3
    obtain ⟨k4, e4, p4⟩ := DataW.trod_bool Tryz.underlying4 g4
    obtain ⟨k5, e5, p5⟩ := DataW.trod_bool Tryz.underlying4 g5
    obtain ⟨k6, e6, p6⟩ := DataW.trod_bool Tryz.underlying4 g6
    simp [p0, p1, p2, p3, p4, p5, p6] at hx
    simp at e0 e1 e2 e3 e4 e5 e6
    obtain ⟨rfl, rfl, rfl, rfl, rfl, rfl, rfl⟩ := hx
    rw [e0, e1, e2, e3, e4, e5, e6]

theorem row_cell {l : List Value} {k j : Nat} (hj : j < 7) (r : List Value) (h : (l.drop (k * 7)).take 7 = r) : l[k * 7 + j]? = r[j]? := by
  rw [← h, List.getElem?_take, if_pos hj, List.getElem?_drop]

set_option maxHeartbeats 3200000 in
set_option maxRecDepth 100000 in
theorem forms_of {H : Type} {enc : TypeId × Value → H} {W : World} {base : Nat} {spare : Nat → Bool} {held : Bool} {fuel : Nat} {p : List MemPlace} {cs : Array Value}
    (hv : W.var? Tryz.prog "loop.example/g00084/impl.opForms" = some cs)
    (hd : DataW.trod enc Tryz.prog W base spare held fuel 70 cs.toList = some (Rows.laid_loop_example_g00084_impl_opForms, p)) : FormsAt W := by
  obtain ⟨xs, m, _, hx, hlen, hn, hel⟩ := DataW.trod_array Tryz.underlying70 hd
  rw [Tryz.cellsF10] at hlen
  rw [Tryz.cellsForm] at hel
  have cell := World.var?_cell Tryz.gForms hv
  obtain ⟨l⟩ := cs
  simp only [Prod.mk.injEq] at hx
  have hx := hx.1
  match xs, hn with
  | [x0, x1, x2, x3, x4, x5, x6, x7, x8, x9], _ =>
    simp [Rows.laid_loop_example_g00084_impl_opForms] at hx
    obtain ⟨q0, q1, q2, q3, q4, q5, q6, q7, q8, q9⟩ := hx
    intro k hk
    have key : ∀ r : List Value, (l.drop (k * 7)).take 7 = r → ∀ j, j < 7 → W.cell? ⟨0, k * 7 + j, none⟩ = r[j]? := fun r h j hj => by
      have := cell (k * 7 + j)
      simp at this
      rw [this]
      exact row_cell hj r h
    have hc : k = 0 ∨ k = 1 ∨ k = 2 ∨ k = 3 ∨ k = 4 ∨ k = 5 ∨ k = 6 ∨ k = 7 ∨ k = 8 ∨ k = 9 := by omega
    rcases hc with rfl | rfl | rfl | rfl | rfl | rfl | rfl | rfl | rfl | rfl
    · have hr := form_of (hel 0 (by decide)) q0.symm
      have kk := key _ hr
      exact ⟨kk 0 (by decide), kk 1 (by decide), kk 2 (by decide), kk 3 (by decide), kk 4 (by decide), kk 5 (by decide), kk 6 (by decide)⟩
    · have hr := form_of (hel 1 (by decide)) q1.symm
      have kk := key _ hr
      exact ⟨kk 0 (by decide), kk 1 (by decide), kk 2 (by decide), kk 3 (by decide), kk 4 (by decide), kk 5 (by decide), kk 6 (by decide)⟩
    · have hr := form_of (hel 2 (by decide)) q2.symm
      have kk := key _ hr
      exact ⟨kk 0 (by decide), kk 1 (by decide), kk 2 (by decide), kk 3 (by decide), kk 4 (by decide), kk 5 (by decide), kk 6 (by decide)⟩
    · have hr := form_of (hel 3 (by decide)) q3.symm
      have kk := key _ hr
      exact ⟨kk 0 (by decide), kk 1 (by decide), kk 2 (by decide), kk 3 (by decide), kk 4 (by decide), kk 5 (by decide), kk 6 (by decide)⟩
    · have hr := form_of (hel 4 (by decide)) q4.symm
      have kk := key _ hr
      exact ⟨kk 0 (by decide), kk 1 (by decide), kk 2 (by decide), kk 3 (by decide), kk 4 (by decide), kk 5 (by decide), kk 6 (by decide)⟩
    · have hr := form_of (hel 5 (by decide)) q5.symm
      have kk := key _ hr
      exact ⟨kk 0 (by decide), kk 1 (by decide), kk 2 (by decide), kk 3 (by decide), kk 4 (by decide), kk 5 (by decide), kk 6 (by decide)⟩
    · have hr := form_of (hel 6 (by decide)) q6.symm
      have kk := key _ hr
      exact ⟨kk 0 (by decide), kk 1 (by decide), kk 2 (by decide), kk 3 (by decide), kk 4 (by decide), kk 5 (by decide), kk 6 (by decide)⟩
    · have hr := form_of (hel 7 (by decide)) q7.symm
      have kk := key _ hr
      exact ⟨kk 0 (by decide), kk 1 (by decide), kk 2 (by decide), kk 3 (by decide), kk 4 (by decide), kk 5 (by decide), kk 6 (by decide)⟩
    · have hr := form_of (hel 8 (by decide)) q8.symm
      have kk := key _ hr
      exact ⟨kk 0 (by decide), kk 1 (by decide), kk 2 (by decide), kk 3 (by decide), kk 4 (by decide), kk 5 (by decide), kk 6 (by decide)⟩
    · have hr := form_of (hel 9 (by decide)) q9.symm
      have kk := key _ hr
      exact ⟨kk 0 (by decide), kk 1 (by decide), kk 2 (by decide), kk 3 (by decide), kk 4 (by decide), kk 5 (by decide), kk 6 (by decide)⟩

theorem laid_forms {W : World} (h : laidMetH Tryz.prog [("loop.example/g00084/impl.opForms", Rows.laid_loop_example_g00084_impl_opForms)] W) : FormsAt W := by
  rw [MakeChecks.laidMetH_plain _ _ _ (by kernel_rfl)] at h
  obtain ⟨ps, ⟨g0, t0, cs0, f0, p0, q0, hg0, ht0, hv0, hd0, _⟩, _, _⟩ := h
  obtain rfl := Option.some.inj (Tryz.gForms.symm.trans hg0)
  obtain rfl := Option.some.inj (Tryz.gFormsType.symm.trans ht0)
  exact forms_of hv0 hd0

end Go.Proofs.YtfallpinmhbemaaGreatDoor

namespace Go.Proofs.YtfallpinmhbemaaGreatDoor
open Go.ChangeShapes Go.WideShapes Go.ChangeAt Go.RowKit

theorem Tryz.gPowType : (Tryz.prog.globals[4]?).map (·.type) = some 205 := by kernel_rfl
theorem Tryz.cellsPow : Tryz.prog.cellsOf 205 = 20 := by kernel_rfl
theorem Tryz.cellsU64 : Tryz.prog.cellsOf 58 = 1 := by kernel_rfl
theorem pow_data {H : Type} : (Rows.laid_internal_strconv_uint64pow10 : DataW H) = Lib.tabData .u64 Lib.pow10Tab := by
  unfold Rows.laid_internal_strconv_uint64pow10 Lib.tabData Lib.pow10Tab
  rfl
theorem pow_of {H : Type} {enc : TypeId × Value → H} {W : World} {base : Nat} {spare : Nat → Bool} {held : Bool} {fuel : Nat} {p : List MemPlace} {cs : Array Value}
    (hv : W.var? Tryz.prog "internal/strconv.uint64pow10" = some cs)
    (hd : DataW.trod enc Tryz.prog W base spare held fuel 205 cs.toList = some (Rows.laid_internal_strconv_uint64pow10, p)) : PowAt W := by
  rw [pow_data] at hd
  unfold PowAt Lib.TabIs
  rw [hv, ← Lib.cells_of_tab Tryz.underlying205 Tryz.underlying58 Tryz.cellsU64 Tryz.cellsPow hd]

theorem Tryz.gWords : Tryz.prog.globalNamed "loop.example/g00084/impl.opWords" = some 1 := by kernel_rfl
theorem Tryz.gWordsType : (Tryz.prog.globals[1]?).map (·.type) = some 84 := by kernel_rfl
theorem Tryz.cellsW10 : Tryz.prog.cellsOf 84 = 10 := by kernel_rfl
theorem Tryz.cellsStr1 : Tryz.prog.cellsOf 9 = 1 := by kernel_rfl
theorem bytes_of {s : ByteArray} {l : List UInt8} (h : s.data.toList = l) : s = ⟨l.toArray⟩ := by
  subst h
  apply ByteArray.ext
  simp

set_option maxHeartbeats 1600000 in
set_option maxRecDepth 100000 in
theorem words_of {H : Type} {enc : TypeId × Value → H} {W : World} {base : Nat} {spare : Nat → Bool} {held : Bool} {fuel : Nat} {p : List MemPlace} {cs : Array Value}
    (hv : W.var? Tryz.prog "loop.example/g00084/impl.opWords" = some cs)
    (hd : DataW.trod enc Tryz.prog W base spare held fuel 84 cs.toList = some (Rows.laid_loop_example_g00084_impl_opWords, p)) : WordsAt W := by
  obtain ⟨xs, m, _, hx, hlen, hn, hel⟩ := DataW.trod_array Tryz.underlying84 hd
  rw [Tryz.cellsW10] at hlen
  rw [Tryz.cellsStr1] at hel
  have cell := World.var?_cell Tryz.gWords hv
  obtain ⟨l⟩ := cs
  simp only [Prod.mk.injEq] at hx
  have hx := hx.1
  match xs, hn, l, hlen with
  | [x0, x1, x2, x3, x4, x5, x6, x7, x8, x9], _, [c0, c1, c2, c3, c4, c5, c6, c7, c8, c9], _ =>
    have h0 := hel 0 (by decide)
    have h1 := hel 1 (by decide)
    have h2 := hel 2 (by decide)
    have h3 := hel 3 (by decide)
    have h4 := hel 4 (by decide)
    have h5 := hel 5 (by decide)
    have h6 := hel 6 (by decide)
    have h7 := hel 7 (by decide)
    have h8 := hel 8 (by decide)
    have h9 := hel 9 (by decide)
    simp at h0 h1 h2 h3 h4 h5 h6 h7 h8 h9
    obtain ⟨s0, e0, f0, _⟩ := DataW.trod_string Tryz.underlying9 h0
    obtain ⟨s1, e1, f1, _⟩ := DataW.trod_string Tryz.underlying9 h1
    obtain ⟨s2, e2, f2, _⟩ := DataW.trod_string Tryz.underlying9 h2
    obtain ⟨s3, e3, f3, _⟩ := DataW.trod_string Tryz.underlying9 h3
    obtain ⟨s4, e4, f4, _⟩ := DataW.trod_string Tryz.underlying9 h4
    obtain ⟨s5, e5, f5, _⟩ := DataW.trod_string Tryz.underlying9 h5
    obtain ⟨s6, e6, f6, _⟩ := DataW.trod_string Tryz.underlying9 h6
    obtain ⟨s7, e7, f7, _⟩ := DataW.trod_string Tryz.underlying9 h7
    obtain ⟨s8, e8, f8, _⟩ := DataW.trod_string Tryz.underlying9 h8
    obtain ⟨s9, e9, f9, _⟩ := DataW.trod_string Tryz.underlying9 h9
    simp [Rows.laid_loop_example_g00084_impl_opWords, f0, f1, f2, f3, f4, f5, f6, f7, f8, f9] at hx
    simp at e0 e1 e2 e3 e4 e5 e6 e7 e8 e9
    obtain ⟨q0, q1, q2, q3, q4, q5, q6, q7, q8, q9⟩ := hx
    subst e0 e1 e2 e3 e4 e5 e6 e7 e8 e9
    intro k hk
    have hc : k = 0 ∨ k = 1 ∨ k = 2 ∨ k = 3 ∨ k = 4 ∨ k = 5 ∨ k = 6 ∨ k = 7 ∨ k = 8 ∨ k = 9 := by omega
    rcases hc with rfl | rfl | rfl | rfl | rfl | rfl | rfl | rfl | rfl | rfl
    · have := cell 0
      simp at this
      rw [this, show s0 = ⟨#[]⟩ from ByteArray.ext q0]
      rfl
    · have := cell 1
      simp at this
      rw [this, bytes_of q1.symm]
      rfl
    · have := cell 2
      simp at this
      rw [this, bytes_of q2.symm]
      rfl
    · have := cell 3
      simp at this
      rw [this, bytes_of q3.symm]
      rfl
    · have := cell 4
      simp at this
      rw [this, bytes_of q4.symm]
      rfl
    · have := cell 5
      simp at this
      rw [this, bytes_of q5.symm]
      rfl
    · have := cell 6
      simp at this
      rw [this, bytes_of q6.symm]
      rfl
    · have := cell 7
      simp at this
      rw [this, bytes_of q7.symm]
      rfl
    · have := cell 8
      simp at this
      rw [this, bytes_of q8.symm]
      rfl
    · have := cell 9
      simp at this
      rw [this, bytes_of q9.symm]
      rfl

theorem laid_text {W : World} {a b : DataW Unit} (h : laidMetH Tryz.prog [("math/bits.deBruijn32tab", a), ("math/bits.deBruijn64tab", b), ("internal/strconv.uint64pow10", Rows.laid_internal_strconv_uint64pow10), ("loop.example/g00084/impl.opWords", Rows.laid_loop_example_g00084_impl_opWords), ("loop.example/g00084/impl.opForms", Rows.laid_loop_example_g00084_impl_opForms)] W) (hp : laidMetH Tryz.prog [("math/bits.deBruijn32tab", a), ("math/bits.deBruijn64tab", b), ("internal/strconv.uint64pow10", Rows.laid_internal_strconv_uint64pow10), ("loop.example/g00084/impl.opWords", Rows.laid_loop_example_g00084_impl_opWords), ("loop.example/g00084/impl.opForms", Rows.laid_loop_example_g00084_impl_opForms)] W ↔ laidMet Tryz.prog [("math/bits.deBruijn32tab", a), ("math/bits.deBruijn64tab", b), ("internal/strconv.uint64pow10", Rows.laid_internal_strconv_uint64pow10), ("loop.example/g00084/impl.opWords", Rows.laid_loop_example_g00084_impl_opWords), ("loop.example/g00084/impl.opForms", Rows.laid_loop_example_g00084_impl_opForms)] W) : FormsAt W ∧ PowAt W ∧ WordsAt W := by
  have h := hp.1 h
  obtain ⟨ps, ⟨_, _, _, _, _, _, _, _, _, _, ⟨_, _, _, _, _, _, _, _, _, _, ⟨g2, t2, cs2, f2, p2, q2, hg2, ht2, hv2, hd2, ⟨g3, t3, cs3, f3, p3, q3, hg3, ht3, hv3, hd3, ⟨g4, t4, cs4, f4, p4, q4, hg4, ht4, hv4, hd4, _⟩, _⟩, _⟩, _⟩, _⟩, _⟩ := h
  obtain rfl := Option.some.inj (Tryz.gPow.symm.trans hg2)
  obtain rfl := Option.some.inj (Tryz.gPowType.symm.trans ht2)
  obtain rfl := Option.some.inj (Tryz.gWords.symm.trans hg3)
  obtain rfl := Option.some.inj (Tryz.gWordsType.symm.trans ht3)
  obtain rfl := Option.some.inj (Tryz.gForms.symm.trans hg4)
  obtain rfl := Option.some.inj (Tryz.gFormsType.symm.trans ht4)
  exact ⟨forms_of hv4 hd4, pow_of hv2 hd2, words_of hv3 hd3⟩

end Go.Proofs.YtfallpinmhbemaaGreatDoor

namespace Go.Proofs.YtfallpinmhbemaaGreatDoor
open Go.ChangeShapes Go.WideShapes Go.ChangeAt Go.RowKit

theorem Tryz.gLines : Tryz.prog.globalNamed "loop.example/g00084/impl.lineForms" = some 2 := by kernel_rfl
theorem Tryz.gLinesType : (Tryz.prog.globals[2]?).map (·.type) = some 103 := by kernel_rfl
theorem Tryz.cellsL11 : Tryz.prog.cellsOf 103 = 22 := by kernel_rfl
theorem Tryz.cellsLine : Tryz.prog.cellsOf 102 = 2 := by kernel_rfl

set_option maxHeartbeats 1600000 in
set_option maxRecDepth 100000 in
theorem lineForm_of {H : Type} {enc : TypeId × Value → H} {W : World} {base : Nat} {spare : Nat → Bool} {held : Bool} {m : Nat} {l : List Value} {x : DataW H × List MemPlace} {a : List UInt8} {i : Int}
    (h : DataW.trod enc Tryz.prog W base spare held m 102 l = some x) (hx : x.1 = .agg [.lit (.string a), .lit (.int .i64 i)]) : l[0]? = some (.string ⟨a.toArray⟩) := by
  obtain ⟨xs, n, _, rfl, hl, hlen, hf⟩ := DataW.trod_struct Tryz.underlying102 h
  rw [Tryz.cellsLine] at hl
  match xs, hlen, l, hl with
  | [y0, y1], _, [c0, c1], _ =>
    have g0 := hf 0 _ rfl
    have g1 := hf 1 _ rfl
    simp [Tryz.cellsInt1, Tryz.cellsStr1] at g0 g1
    obtain ⟨s0, e0, p0, _⟩ := DataW.trod_string Tryz.underlying9 g0
    obtain ⟨k1, e1, p1, _⟩ := DataW.trod_int Tryz.underlying3 g1
    simp [p0, p1] at hx
    simp at e0
    rw [e0, bytes_of hx.1]
    rfl

set_option maxHeartbeats 1600000 in
set_option maxRecDepth 100000 in
theorem line_of {H : Type} {enc : TypeId × Value → H} {W : World} {base : Nat} {spare : Nat → Bool} {held : Bool} {fuel : Nat} {p : List MemPlace} {cs : Array Value}
    (hv : W.var? Tryz.prog "loop.example/g00084/impl.lineForms" = some cs)
    (hd : DataW.trod enc Tryz.prog W base spare held fuel 103 cs.toList = some (Rows.laid_loop_example_g00084_impl_lineForms, p)) : LineAt W := by
  obtain ⟨xs, m, _, hx, hlen, hn, hel⟩ := DataW.trod_array Tryz.underlying103 hd
  rw [Tryz.cellsL11] at hlen
  rw [Tryz.cellsLine] at hel
  have cell := World.var?_cell Tryz.gLines hv
  obtain ⟨l⟩ := cs
  simp only [Prod.mk.injEq] at hx
  have hx := hx.1
  match xs, hn with
  | [x0, x1, x2, x3, x4, x5, x6, x7, x8, x9, x10], _ =>
    simp [Rows.laid_loop_example_g00084_impl_lineForms] at hx
    obtain ⟨q0, q1, _⟩ := hx
    have hr := lineForm_of (hel 1 (by decide)) q1.symm
    have c := cell 2
    simp at c hr
    unfold LineAt
    rw [c]
    exact hr

theorem laid_sail {W : World} {a b : DataW Unit} (h : laidMet Tryz.prog [("math/bits.deBruijn32tab", a), ("math/bits.deBruijn64tab", b), ("internal/strconv.uint64pow10", Rows.laid_internal_strconv_uint64pow10), ("loop.example/g00084/impl.lineForms", Rows.laid_loop_example_g00084_impl_lineForms)] W) : PowAt W ∧ LineAt W := by
  obtain ⟨ps, ⟨_, _, _, _, _, _, _, _, _, _, ⟨_, _, _, _, _, _, _, _, _, _, ⟨g2, t2, cs2, f2, p2, q2, hg2, ht2, hv2, hd2, ⟨g3, t3, cs3, f3, p3, q3, hg3, ht3, hv3, hd3, _⟩, _⟩, _⟩, _⟩, _⟩ := h
  obtain rfl := Option.some.inj (Tryz.gPow.symm.trans hg2)
  obtain rfl := Option.some.inj (Tryz.gPowType.symm.trans ht2)
  obtain rfl := Option.some.inj (Tryz.gLines.symm.trans hg3)
  obtain rfl := Option.some.inj (Tryz.gLinesType.symm.trans ht3)
  exact ⟨pow_of hv2 hd2, line_of hv3 hd3⟩

end Go.Proofs.YtfallpinmhbemaaGreatDoor

namespace Go.Proofs.YtfallpinmhbemaaGreatDoor
open Go.ChangeShapes Go.WideShapes Go.ChangeAt Go.RowKit

theorem laid_texts {W : World} {a b : DataW Unit} (h : laidMetH Tryz.prog [("math/bits.deBruijn32tab", a), ("math/bits.deBruijn64tab", b), ("internal/strconv.uint64pow10", Rows.laid_internal_strconv_uint64pow10), ("loop.example/g00084/impl.lineForms", Rows.laid_loop_example_g00084_impl_lineForms), ("loop.example/g00084/impl.opWords", Rows.laid_loop_example_g00084_impl_opWords), ("loop.example/g00084/impl.opForms", Rows.laid_loop_example_g00084_impl_opForms)] W) (hp : laidMetH Tryz.prog [("math/bits.deBruijn32tab", a), ("math/bits.deBruijn64tab", b), ("internal/strconv.uint64pow10", Rows.laid_internal_strconv_uint64pow10), ("loop.example/g00084/impl.lineForms", Rows.laid_loop_example_g00084_impl_lineForms), ("loop.example/g00084/impl.opWords", Rows.laid_loop_example_g00084_impl_opWords), ("loop.example/g00084/impl.opForms", Rows.laid_loop_example_g00084_impl_opForms)] W ↔ laidMet Tryz.prog [("math/bits.deBruijn32tab", a), ("math/bits.deBruijn64tab", b), ("internal/strconv.uint64pow10", Rows.laid_internal_strconv_uint64pow10), ("loop.example/g00084/impl.lineForms", Rows.laid_loop_example_g00084_impl_lineForms), ("loop.example/g00084/impl.opWords", Rows.laid_loop_example_g00084_impl_opWords), ("loop.example/g00084/impl.opForms", Rows.laid_loop_example_g00084_impl_opForms)] W) : TabsT W := by
  have h := hp.1 h
  obtain ⟨ps, ⟨_, _, _, _, _, _, _, _, _, _, ⟨_, _, _, _, _, _, _, _, _, _, ⟨g2, t2, cs2, f2, p2, q2, hg2, ht2, hv2, hd2, ⟨g3, t3, cs3, f3, p3, q3, hg3, ht3, hv3, hd3, ⟨g4, t4, cs4, f4, p4, q4, hg4, ht4, hv4, hd4, ⟨g5, t5, cs5, f5, p5, q5, hg5, ht5, hv5, hd5, _⟩, _⟩, _⟩, _⟩, _⟩, _⟩, _⟩ := h
  obtain rfl := Option.some.inj (Tryz.gPow.symm.trans hg2)
  obtain rfl := Option.some.inj (Tryz.gPowType.symm.trans ht2)
  obtain rfl := Option.some.inj (Tryz.gLines.symm.trans hg3)
  obtain rfl := Option.some.inj (Tryz.gLinesType.symm.trans ht3)
  obtain rfl := Option.some.inj (Tryz.gWords.symm.trans hg4)
  obtain rfl := Option.some.inj (Tryz.gWordsType.symm.trans ht4)
  obtain rfl := Option.some.inj (Tryz.gForms.symm.trans hg5)
  obtain rfl := Option.some.inj (Tryz.gFormsType.symm.trans ht5)
  exact ⟨forms_of hv5 hd5, pow_of hv2 hd2, words_of hv4 hd4, line_of hv3 hd3⟩

end Go.Proofs.YtfallpinmhbemaaGreatDoor

namespace Go.Proofs.YtfallpinmhbemaaGreatDoor
open Go.ChangeShapes Go.WideShapes Go.ChangeAt Go.RowKit Go.Deep Go.Joins

theorem vars_three {H : Type} {enc : TypeId × Value → H} {P : Program} {w : World} {spare : Nat → Bool} {n0 n1 n2 : String} {gs : List (DataW H)} {ps : List MemPlace} (h : DataW.TrodVars enc P w spare [n0, n1, n2] gs ps) : ∃ d0 d1 d2, gs = [d0, d1, d2] := by
  cases gs with
  | nil => simp [DataW.TrodVars] at h
  | cons d ds =>
    obtain ⟨g0, t0, cs0, f0, p0, q0, h1, h2, h3, h4, hs, e⟩ := h
    obtain ⟨_, _, _, _, d1, _, _, _, _, _, d2, _, rfl, _⟩ := trodVars_two hs
    exact ⟨d, d1, d2, rfl⟩

/-- The door's own heap meets the row's list. -/
theorem textsRow_met (os : Os) (args : Array Value) : laidMetH Tryz.prog Rows.fnTextsRow.laid ((World.doorLaid Tryz.prog 400 os).forCall (fun _ _ => 0) ⟨#[], args, []⟩).memory :=
  laidMetH_of_parts3 (fuel := 8) (laidMet_of_run' 8 (by kernel_rfl) (by kernel_rfl)) (by kernel_rfl) (by kernel_rfl)

set_option maxRecDepth 100000 in
theorem textsRow_lifted (os : Os) (started : os.Started) (H : Type) (enc : TypeId × Value → H) :
    ReturnsInHanded {} Tryz.checked os 3 .any (fun w args => (Rows.fnTextsSpec.pre enc Tryz.prog Tryz.f3 [] false w args ∧ laidMetH Tryz.prog Rows.fnTextsRow.laid w) ∧ sizedMet enc Tryz.prog Tryz.f3 (OpenSpec.ofChange Rows.fnTextsSpec) false w args) (Rows.fnTextsSpec.post enc Tryz.prog Tryz.f3 false true false false) := by
  refine returnsInHanded_of_change_and (C := Tryz.checked) (X := fun w _ => laidMetH Tryz.prog Rows.fnTextsRow.laid w) (fun _ _ _ hh h => h.of_heap hh) Tryz.own started (by kernel_rfl) Tryz.func3
    (ChangeSpec.witness_shaped (enc := enc) (C := Tryz.checked) (os := os) (X := fun w _ => laidMetH Tryz.prog Rows.fnTextsRow.laid w) false (World.doorLaid Tryz.prog 400 os) #[.slice none 0 0, .slice none 0 0] 8 rfl (World.shaped_of_RefB (by kernel_rfl) (by kernel_rfl)) (by kernel_rfl) (by kernel_rfl) (by kernel_rfl) (textsRow_met os _)) ?_
  intro W base args ds gs before hval0 hW _ hsz0 hL _
  have hsz : (DataW.weightsEach Tryz.prog (Tryz.f3.params.toList ++ Rows.fnTextsSpec.plain.varTypes Tryz.prog) (ds ++ gs)).all (· ≤ reachBytes) = true := hsz0
  clear hsz0
  have hval : ∀ (j : Nat) t v, Tryz.f3.params[j]? = some t → args[j]? = some v → Value.okWide Tryz.prog W .any base t v := hval0
  have hW' := hW
  obtain ⟨p, q, hA0, hV, rfl, hfz, hnd⟩ := hW
  have hA : DataW.TrodAll enc Tryz.prog W 0 (fun _ => true) true Tryz.f3.params.toList args.toList ds p := hA0
  rw [Tryz.params3] at hA hval hsz
  obtain ⟨v0, vs0, d0, ds0, p0, q0, hargs, rfl, rfl, h0, r0⟩ := trodAll_cons hA
  obtain ⟨v1, vs1, d1, ds1, p1, q1, rfl, rfl, rfl, h1, r1⟩ := trodAll_cons r0
  obtain ⟨rfl, rfl, rfl⟩ := trodAll_nil r1
  obtain rfl : args = #[v0, v1] := by cases args; simp_all
  have hV1 := hV
  obtain ⟨g0, g1, g2, rfl⟩ := vars_three hV1
  have k0 := h0
  have lt0 : ∀ x ∈ p0, x.block < W.heap.size := by obtain ⟨m, hm⟩ := k0; exact DataW.trod_lt m _ _ _ hm
  have hw0 : ∀ x ∈ DataW.weights Tryz.prog 22 d0, x ≤ reachBytes := by
    intro x hx
    have := List.all_eq_true.1 hsz x (by simp [DataW.weightsEach, hx])
    simpa using this
  obtain ⟨ao0, n0, c0, rfl, hn0, hx0⟩ := open_code (hval 0 22 v0 rfl rfl) h0 hw0
  have k1 := h1
  have lt1 : ∀ x ∈ p1, x.block < W.heap.size := by obtain ⟨m, hm⟩ := k1; exact DataW.trod_lt m _ _ _ hm
  have hw1 : ∀ x ∈ DataW.weights Tryz.prog 22 d1, x ≤ reachBytes := by
    intro x hx
    have := List.all_eq_true.1 hsz x (by simp [DataW.weightsEach, hx])
    simpa using this
  obtain ⟨ao1, n1, c1, rfl, hn1, hx1⟩ := open_code (hval 1 22 v1 rfl rfl) h1 hw1
  clear hA0 hval0
  refine (lawTexts ao0 n0 c0 ao1 n1 c1 W hn0 hx0 hn1 hx1 (laid_texts hL (Iff.of_eq (MakeChecks.laidMetH_plain _ _ _ (by kernel_rfl))))).mono fun e W' ⟨he, bel⟩ => ?_
  subst he
  exact ⟨_, rfl, _, _, _, [], _, _, hW', trodAll_mk1 (shut_bool Tryz.underlying4 _), (trodAll_cons_mk (Below.trod Tryz.laidOut (by kernel_rfl) (of_decide_eq_true (by kernel_rfl)) k0 bel lt0) (trodAll_cons_mk (Below.trod Tryz.laidOut (by kernel_rfl) (of_decide_eq_true (by kernel_rfl)) k1 bel lt1) trodAll_mk0)), Below.trodVars Tryz.laidOut bel (by kernel_rfl) hV, bel.frame _, fun h => by cases h⟩

theorem textsRow_holds : Rows.FnTextsSaid :=
  OpenClaim.holds_of_wide 3 Tryz.f3 rfl rfl rfl rfl rfl rfl rfl ⟨rfl, rfl, rfl, rfl, rfl⟩ rfl rfl rfl rfl rfl (by kernel_rfl) Tryz.func3 (by kernel_rfl)
    (of_decide_eq_true (by kernel_rfl)) (by unfold Func.isWrapper; first | (rw [if_pos (by decide +kernel)]; kernel_rfl) | (rw [if_neg (by decide +kernel)]; exact ⟨rfl, rfl⟩))
    (fun os started H enc _ => textsRow_lifted os started H enc)

/-- THE CARD: the row, its tables tied to the program's text. -/
theorem textsRow_card : Rows.FnTextsCardSaid :=
  Claim7.holds_tied_plain_at .later [] _ _ _ _ textsRow_holds (fun _ h => by cases h) (by kernel_rfl) (fun _ h => by cases h) fnTexts_row_tie rfl ⟨rfl, rfl⟩ (by kernel_rfl) rfl
    (fun f fn hf hfn => by
      obtain rfl : f = 3 := Option.some.inj ((show Tryz.prog.funcNamed "loop.example/g00084/laws.FnTexts" = some 3 by kernel_rfl).symm.trans hf) |>.symm
      obtain rfl : fn = Tryz.f3 := (Option.some.inj (Tryz.func3.symm.trans hfn)).symm
      refine ⟨by kernel_rfl, fun j t ht => ?_⟩
      rw [Tryz.params3] at ht
      rcases j with _ | _ | j
      · obtain rfl : t = 22 := by simpa using ht.symm
        exact (show Tryz.prog.wantsStandIn 22 = false by kernel_rfl)
      · obtain rfl : t = 22 := by simpa using ht.symm
        exact (show Tryz.prog.wantsStandIn 22 = false by kernel_rfl)
      · simp at ht)
    (by kernel_rfl)
#print axioms textsRow_card

end Go.Proofs.YtfallpinmhbemaaGreatDoor
