/-
  OWN TEXT: LaidS, PReadS (the last: FnExactReadSail holds, at every argument, with no condition).
-/
import Derived.Test.YtfbooamjddnagaaDoorCards
import Derived.Test.YtfbooamjddnagaaDoorTie
import Derived.OpenVars
import Derived.SevenTiedAt
import Derived.Test.YtfbooamjddnagaaDoorXSail10
import Derived.Test.YtfbooamjddnagaaDoorXSail05
import Derived.Test.YtfbooamjddnagaaDoorXSail09
namespace Go.Proofs.YtfbooamjddnagaaDoor
open Go.ChangeShapes Go.WideShapes Go.ChangeAt Go.RowKit

theorem Tryd.gLines : Tryd.prog.globalNamed "loop.example/g00084/impl.lineForms" = some 2 := by kernel_rfl
theorem Tryd.gLinesType : (Tryd.prog.globals[2]?).map (·.type) = some 131 := by kernel_rfl
theorem Tryd.cellsL11 : Tryd.prog.cellsOf 131 = 22 := by kernel_rfl
theorem Tryd.cellsLine : Tryd.prog.cellsOf 130 = 2 := by kernel_rfl

set_option maxHeartbeats 1600000 in
set_option maxRecDepth 100000 in
theorem lineForm_of {H : Type} {enc : TypeId × Value → H} {W : World} {base : Nat} {spare : Nat → Bool} {held : Bool} {m : Nat} {l : List Value} {x : DataW H × List MemPlace} {a : List UInt8} {i : Int}
    (h : DataW.trod enc Tryd.prog W base spare held m 130 l = some x) (hx : x.1 = .agg [.lit (.string a), .lit (.int .i64 i)]) : l[0]? = some (.string ⟨a.toArray⟩) := by
  obtain ⟨xs, n, _, rfl, hl, hlen, hf⟩ := DataW.trod_struct Tryd.underlying130 h
  rw [Tryd.cellsLine] at hl
  match xs, hlen, l, hl with
  | [y0, y1], _, [c0, c1], _ =>
    have g0 := hf 0 _ rfl
    have g1 := hf 1 _ rfl
    simp [Tryd.cellsInt1, Tryd.cellsStr1] at g0 g1
    obtain ⟨s0, e0, p0, _⟩ := DataW.trod_string Tryd.underlying9 g0
    obtain ⟨k1, e1, p1, _⟩ := DataW.trod_int Tryd.underlying3 g1
    simp [p0, p1] at hx
    simp at e0
    rw [e0, bytes_of hx.1]
    rfl

set_option maxHeartbeats 1600000 in
set_option maxRecDepth 100000 in
theorem line_of {H : Type} {enc : TypeId × Value → H} {W : World} {base : Nat} {spare : Nat → Bool} {held : Bool} {fuel : Nat} {p : List MemPlace} {cs : Array Value}
    (hv : W.var? Tryd.prog "loop.example/g00084/impl.lineForms" = some cs)
    (hd : DataW.trod enc Tryd.prog W base spare held fuel 131 cs.toList = some (Rows.laid_loop_example_g00084_impl_lineForms, p)) : LineAt W := by
  obtain ⟨xs, m, _, hx, hlen, hn, hel⟩ := DataW.trod_array Tryd.underlying131 hd
  rw [Tryd.cellsL11] at hlen
  rw [Tryd.cellsLine] at hel
  have cell := World.var?_cell Tryd.gLines hv
  obtain ⟨l⟩ := cs
  simp only [Prod.mk.injEq] at hx
  have hx := hx.1
  match xs, hn with
  | [x0, x1, x2, x3, x4, x5, x6, x7, x8, x9, x10], _ =>
    simp [Rows.laid_loop_example_g00084_impl_lineForms] at hx
    obtain ⟨q0, q1, _⟩ := hx
    have hr := lineForm_of (hel 1 (by decide)) q1.symm
    have c := cell 2
    simp at c hr
    unfold LineAt
    rw [c]
    exact hr

theorem laid_sail {W : World} {a b : DataW Unit} (h : laidMet Tryd.prog [("math/bits.deBruijn32tab", a), ("math/bits.deBruijn64tab", b), ("internal/strconv.uint64pow10", Rows.laid_internal_strconv_uint64pow10), ("loop.example/g00084/impl.lineForms", Rows.laid_loop_example_g00084_impl_lineForms)] W) : PowAt W ∧ LineAt W := by
  obtain ⟨ps, ⟨_, _, _, _, _, _, _, _, _, _, ⟨_, _, _, _, _, _, _, _, _, _, ⟨g2, t2, cs2, f2, p2, q2, hg2, ht2, hv2, hd2, ⟨g3, t3, cs3, f3, p3, q3, hg3, ht3, hv3, hd3, _⟩, _⟩, _⟩, _⟩, _⟩ := h
  obtain rfl := Option.some.inj (Tryd.gPow.symm.trans hg2)
  obtain rfl := Option.some.inj (Tryd.gPowType.symm.trans ht2)
  obtain rfl := Option.some.inj (Tryd.gLines.symm.trans hg3)
  obtain rfl := Option.some.inj (Tryd.gLinesType.symm.trans ht3)
  exact ⟨pow_of hv2 hd2, line_of hv3 hd3⟩

end Go.Proofs.YtfbooamjddnagaaDoor

namespace Go.Proofs.YtfbooamjddnagaaDoor
open Go.ChangeShapes Go.WideShapes Go.ChangeAt Go.RowKit Go.Deep Go.Joins

/-- The door's own heap meets the row's list. -/
theorem readSailRow_met (os : Os) (args : Array Value) : laidMetH Tryd.prog Rows.fnExactReadSailRow.laid ((World.doorLaid Tryd.prog 400 os).forCall (fun _ _ => 0) ⟨#[], args, []⟩).memory :=
  laidMetH_of_parts3 (fuel := 8) (laidMet_of_run' 8 (by kernel_rfl) (by kernel_rfl)) (by kernel_rfl) (by kernel_rfl)

set_option maxRecDepth 100000 in
theorem readSailRow_lifted (os : Os) (started : os.Started) (H : Type) (enc : TypeId × Value → H) :
    ReturnsInHanded {} Tryd.checked os 6 .any (fun w args => (Rows.fnExactReadSailSpec.pre enc Tryd.prog Tryd.f6 [] false w args ∧ laidMetH Tryd.prog Rows.fnExactReadSailRow.laid w) ∧ sizedMet enc Tryd.prog Tryd.f6 (OpenSpec.ofChange Rows.fnExactReadSailSpec) false w args) (Rows.fnExactReadSailSpec.post enc Tryd.prog Tryd.f6 false true false false) := by
  refine returnsInHanded_of_change_and (C := Tryd.checked) (X := fun w _ => laidMetH Tryd.prog Rows.fnExactReadSailRow.laid w) (fun _ _ _ hh h => h.of_heap hh) Tryd.own started (by kernel_rfl) Tryd.func6
    (ChangeSpec.witness_shaped (enc := enc) (C := Tryd.checked) (os := os) (X := fun w _ => laidMetH Tryd.prog Rows.fnExactReadSailRow.laid w) false (World.doorLaid Tryd.prog 400 os) #[.string ⟨#[]⟩] 8 rfl (World.shaped_of_RefB (by kernel_rfl) (by kernel_rfl)) (by kernel_rfl) (by kernel_rfl) (by kernel_rfl) (readSailRow_met os _)) ?_
  intro W base args ds gs before hval0 hW _ hsz0 hL _
  have hsz : (DataW.weightsEach Tryd.prog (Tryd.f6.params.toList ++ Rows.fnExactReadSailSpec.plain.varTypes Tryd.prog) (ds ++ gs)).all (· ≤ reachBytes) = true := hsz0
  clear hsz0
  have hval : ∀ (j : Nat) t v, Tryd.f6.params[j]? = some t → args[j]? = some v → Value.okWide Tryd.prog W .any base t v := hval0
  have hW' := hW
  obtain ⟨p, q, hA0, hV, rfl, hfz, hnd⟩ := hW
  have hA : DataW.TrodAll enc Tryd.prog W 0 (fun _ => true) true Tryd.f6.params.toList args.toList ds p := hA0
  rw [Tryd.params6] at hA hval hsz
  obtain ⟨v0, vs0, d0, ds0, p0, q0, hargs, rfl, rfl, h0, r0⟩ := trodAll_cons hA
  obtain ⟨rfl, rfl, rfl⟩ := trodAll_nil r0
  obtain rfl : args = #[v0] := by cases args; simp_all
  have hV1 := hV
  obtain ⟨_, _, _, _, g0, _, rfl, _⟩ := trodVars_one hV1
  have k0 := h0
  have lt0 : ∀ x ∈ p0, x.block < W.heap.size := by obtain ⟨m, hm⟩ := k0; exact DataW.trod_lt m _ _ _ hm
  have hw0 : ∀ x ∈ DataW.weights Tryd.prog 9 d0, x ≤ reachBytes := by
    intro x hx
    have := List.all_eq_true.1 hsz x (by simp [DataW.weightsEach, hx])
    simpa using this
  obtain ⟨s0, rfl, hn0⟩ := open_text (hval 0 9 v0 rfl rfl) h0 hw0
  clear hA0 hval0
  refine (lawReadSail s0 W hn0 (laid_sail ((Iff.of_eq (MakeChecks.laidMetH_plain _ _ _ (by kernel_rfl))).1 hL))).mono fun e W' ⟨he, bel⟩ => ?_
  subst he
  exact ⟨_, rfl, _, _, _, [], _, _, hW', trodAll_mk1 (shut_bool Tryd.underlying4 _), (trodAll_cons_mk (Below.trod Tryd.laidOut (by kernel_rfl) (of_decide_eq_true (by kernel_rfl)) k0 bel lt0) trodAll_mk0), Below.trodVars Tryd.laidOut bel (by kernel_rfl) hV, bel.frame _, fun h => by cases h⟩

theorem readSailRow_holds : Rows.FnExactReadSailSaid :=
  OpenClaim.holds_of_wide 6 Tryd.f6 rfl rfl rfl rfl rfl rfl rfl ⟨rfl, rfl, rfl, rfl, rfl⟩ rfl rfl rfl rfl rfl (by kernel_rfl) Tryd.func6 (by kernel_rfl)
    (of_decide_eq_true (by kernel_rfl)) (by unfold Func.isWrapper; first | (rw [if_pos (by decide +kernel)]; kernel_rfl) | (rw [if_neg (by decide +kernel)]; exact ⟨rfl, rfl⟩))
    (fun os started H enc _ => readSailRow_lifted os started H enc)

/-- THE CARD: the row, its tables tied to the program's text. -/
theorem readSailRow_card : Rows.FnExactReadSailCardSaid :=
  Claim7.holds_tied_plain_at .later [] _ _ _ _ readSailRow_holds (fun _ h => by cases h) (by kernel_rfl) (fun _ h => by cases h) fnExactReadSail_row_tie rfl ⟨rfl, rfl⟩ (by kernel_rfl) rfl
    (fun f fn hf hfn => by
      obtain rfl : f = 6 := Option.some.inj ((show Tryd.prog.funcNamed "loop.example/g00084/laws.FnExactReadSail" = some 6 by kernel_rfl).symm.trans hf) |>.symm
      obtain rfl : fn = Tryd.f6 := (Option.some.inj (Tryd.func6.symm.trans hfn)).symm
      refine ⟨by kernel_rfl, fun j t ht => ?_⟩
      rw [Tryd.params6] at ht
      rcases j with _ | j
      · obtain rfl : t = 9 := by simpa using ht.symm
        exact (show Tryd.prog.wantsStandIn 9 = false by kernel_rfl)
      · simp at ht)
    (by kernel_rfl)
#print axioms readSailRow_card

end Go.Proofs.YtfbooamjddnagaaDoor
