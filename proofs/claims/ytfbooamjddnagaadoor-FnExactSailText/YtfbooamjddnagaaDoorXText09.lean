/-
  OWN TEXT: LaidT.
-/
import Derived.Test.YtfbooamjddnagaaDoorXText08
import Derived.Test.YtfbooamjddnagaaDoorB23
namespace Go.Proofs.YtfbooamjddnagaaDoor
open Go.ChangeShapes Go.WideShapes Go.ChangeAt Go.RowKit

theorem Tryd.gPowType : (Tryd.prog.globals[4]?).map (·.type) = some 166 := by kernel_rfl
theorem Tryd.cellsPow : Tryd.prog.cellsOf 166 = 20 := by kernel_rfl
theorem Tryd.cellsU64 : Tryd.prog.cellsOf 158 = 1 := by kernel_rfl
theorem pow_data {H : Type} : (Rows.laid_internal_strconv_uint64pow10 : DataW H) = Lib.tabData .u64 Lib.pow10Tab := by
  unfold Rows.laid_internal_strconv_uint64pow10 Lib.tabData Lib.pow10Tab
  rfl
theorem pow_of {H : Type} {enc : TypeId × Value → H} {W : World} {base : Nat} {spare : Nat → Bool} {held : Bool} {fuel : Nat} {p : List MemPlace} {cs : Array Value}
    (hv : W.var? Tryd.prog "internal/strconv.uint64pow10" = some cs)
    (hd : DataW.trod enc Tryd.prog W base spare held fuel 166 cs.toList = some (Rows.laid_internal_strconv_uint64pow10, p)) : PowAt W := by
  rw [pow_data] at hd
  unfold PowAt Lib.TabIs
  rw [hv, ← Lib.cells_of_tab Tryd.underlying166 Tryd.underlying158 Tryd.cellsU64 Tryd.cellsPow hd]

theorem Tryd.gWords : Tryd.prog.globalNamed "loop.example/g00084/impl.opWords" = some 1 := by kernel_rfl
theorem Tryd.gWordsType : (Tryd.prog.globals[1]?).map (·.type) = some 113 := by kernel_rfl
theorem Tryd.cellsW10 : Tryd.prog.cellsOf 113 = 10 := by kernel_rfl
theorem Tryd.cellsStr1 : Tryd.prog.cellsOf 9 = 1 := by kernel_rfl
theorem bytes_of {s : ByteArray} {l : List UInt8} (h : s.data.toList = l) : s = ⟨l.toArray⟩ := by
  subst h
  apply ByteArray.ext
  simp

set_option maxHeartbeats 1600000 in
set_option maxRecDepth 100000 in
theorem words_of {H : Type} {enc : TypeId × Value → H} {W : World} {base : Nat} {spare : Nat → Bool} {held : Bool} {fuel : Nat} {p : List MemPlace} {cs : Array Value}
    (hv : W.var? Tryd.prog "loop.example/g00084/impl.opWords" = some cs)
    (hd : DataW.trod enc Tryd.prog W base spare held fuel 113 cs.toList = some (Rows.laid_loop_example_g00084_impl_opWords, p)) : WordsAt W := by
  obtain ⟨xs, m, _, hx, hlen, hn, hel⟩ := DataW.trod_array Tryd.underlying113 hd
  rw [Tryd.cellsW10] at hlen
  rw [Tryd.cellsStr1] at hel
  have cell := World.var?_cell Tryd.gWords hv
  obtain ⟨l⟩ := cs
  simp only [Prod.mk.injEq] at hx
  have hx := hx.1
  match xs, hn, l, hlen with
  | [x0, x1, x2, x3, x4, x5, x6, x7, x8, x9], _, [c0, c1, c2, c3, c4, c5, c6, c7, c8, c9], _ =>
    have h0 := hel 0 (by decide)
    have h1 := hel 1 (by decide)
    have h2 := hel 2 (by decide)
    have h3 := hel 3 (by decide)
    have h4 := hel 4 (by decide)
    have h5 := hel 5 (by decide)
    have h6 := hel 6 (by decide)
    have h7 := hel 7 (by decide)
    have h8 := hel 8 (by decide)
    have h9 := hel 9 (by decide)
    simp at h0 h1 h2 h3 h4 h5 h6 h7 h8 h9
    obtain ⟨s0, e0, f0, _⟩ := DataW.trod_string Tryd.underlying9 h0
    obtain ⟨s1, e1, f1, _⟩ := DataW.trod_string Tryd.underlying9 h1
    obtain ⟨s2, e2, f2, _⟩ := DataW.trod_string Tryd.underlying9 h2
    obtain ⟨s3, e3, f3, _⟩ := DataW.trod_string Tryd.underlying9 h3
    obtain ⟨s4, e4, f4, _⟩ := DataW.trod_string Tryd.underlying9 h4
    obtain ⟨s5, e5, f5, _⟩ := DataW.trod_string Tryd.underlying9 h5
    obtain ⟨s6, e6, f6, _⟩ := DataW.trod_string Tryd.underlying9 h6
    obtain ⟨s7, e7, f7, _⟩ := DataW.trod_string Tryd.underlying9 h7
    obtain ⟨s8, e8, f8, _⟩ := DataW.trod_string Tryd.underlying9 h8
    obtain ⟨s9, e9, f9, _⟩ := DataW.trod_string Tryd.underlying9 h9
    simp [Rows.laid_loop_example_g00084_impl_opWords, f0, f1, f2, f3, f4, f5, f6, f7, f8, f9] at hx
    simp at e0 e1 e2 e3 e4 e5 e6 e7 e8 e9
    obtain ⟨q0, q1, q2, q3, q4, q5, q6, q7, q8, q9⟩ := hx
    subst e0 e1 e2 e3 e4 e5 e6 e7 e8 e9
    intro k hk
    have hc : k = 0 ∨ k = 1 ∨ k = 2 ∨ k = 3 ∨ k = 4 ∨ k = 5 ∨ k = 6 ∨ k = 7 ∨ k = 8 ∨ k = 9 := by omega
    rcases hc with rfl | rfl | rfl | rfl | rfl | rfl | rfl | rfl | rfl | rfl
    · have := cell 0
      simp at this
      rw [this, show s0 = ⟨#[]⟩ from ByteArray.ext q0]
      rfl
    · have := cell 1
      simp at this
      rw [this, bytes_of q1.symm]
      rfl
    · have := cell 2
      simp at this
      rw [this, bytes_of q2.symm]
      rfl
    · have := cell 3
      simp at this
      rw [this, bytes_of q3.symm]
      rfl
    · have := cell 4
      simp at this
      rw [this, bytes_of q4.symm]
      rfl
    · have := cell 5
      simp at this
      rw [this, bytes_of q5.symm]
      rfl
    · have := cell 6
      simp at this
      rw [this, bytes_of q6.symm]
      rfl
    · have := cell 7
      simp at this
      rw [this, bytes_of q7.symm]
      rfl
    · have := cell 8
      simp at this
      rw [this, bytes_of q8.symm]
      rfl
    · have := cell 9
      simp at this
      rw [this, bytes_of q9.symm]
      rfl

theorem laid_text {W : World} {a b : DataW Unit} (h : laidMetH Tryd.prog [("math/bits.deBruijn32tab", a), ("math/bits.deBruijn64tab", b), ("internal/strconv.uint64pow10", Rows.laid_internal_strconv_uint64pow10), ("loop.example/g00084/impl.opWords", Rows.laid_loop_example_g00084_impl_opWords), ("loop.example/g00084/impl.opForms", Rows.laid_loop_example_g00084_impl_opForms)] W) (hp : laidMetH Tryd.prog [("math/bits.deBruijn32tab", a), ("math/bits.deBruijn64tab", b), ("internal/strconv.uint64pow10", Rows.laid_internal_strconv_uint64pow10), ("loop.example/g00084/impl.opWords", Rows.laid_loop_example_g00084_impl_opWords), ("loop.example/g00084/impl.opForms", Rows.laid_loop_example_g00084_impl_opForms)] W ↔ laidMet Tryd.prog [("math/bits.deBruijn32tab", a), ("math/bits.deBruijn64tab", b), ("internal/strconv.uint64pow10", Rows.laid_internal_strconv_uint64pow10), ("loop.example/g00084/impl.opWords", Rows.laid_loop_example_g00084_impl_opWords), ("loop.example/g00084/impl.opForms", Rows.laid_loop_example_g00084_impl_opForms)] W) : FormsAt W ∧ PowAt W ∧ WordsAt W := by
  have h := hp.1 h
  obtain ⟨ps, ⟨_, _, _, _, _, _, _, _, _, _, ⟨_, _, _, _, _, _, _, _, _, _, ⟨g2, t2, cs2, f2, p2, q2, hg2, ht2, hv2, hd2, ⟨g3, t3, cs3, f3, p3, q3, hg3, ht3, hv3, hd3, ⟨g4, t4, cs4, f4, p4, q4, hg4, ht4, hv4, hd4, _⟩, _⟩, _⟩, _⟩, _⟩, _⟩ := h
  obtain rfl := Option.some.inj (Tryd.gPow.symm.trans hg2)
  obtain rfl := Option.some.inj (Tryd.gPowType.symm.trans ht2)
  obtain rfl := Option.some.inj (Tryd.gWords.symm.trans hg3)
  obtain rfl := Option.some.inj (Tryd.gWordsType.symm.trans ht3)
  obtain rfl := Option.some.inj (Tryd.gForms.symm.trans hg4)
  obtain rfl := Option.some.inj (Tryd.gFormsType.symm.trans ht4)
  exact ⟨forms_of hv4 hd4, pow_of hv2 hd2, words_of hv3 hd3⟩

end Go.Proofs.YtfbooamjddnagaaDoor
