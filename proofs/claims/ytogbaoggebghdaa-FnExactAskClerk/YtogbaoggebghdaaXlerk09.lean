/-
  OWN TEXT: VClerk, ViewStr, PAsk (the last: FnExactAskClerk holds, at every argument, with no condition).
-/
import Derived.Test.YtogbaoggebghdaaXlerk08
import Derived.Test.YtogbaoggebghdaaB05
import Derived.Test.YtogbaoggebghdaaXlerk07
namespace Go.Proofs.Ytogbaoggebghdaa
open Go.ChangeShapes Go.WideShapes Go.ChangeAt Go.RowKit Go.Deep Go.Joins

theorem Try.cellsClerk : Try.prog.cellsOf 87 = 7 := by kernel_rfl
theorem Try.bytesClerk : Try.prog.bytesOf 87 = 80 := by kernel_rfl
theorem Try.cellsStrClerk : Try.prog.cellsOf 9 = 1 := by kernel_rfl
theorem Try.cellsBoolClerk : Try.prog.cellsOf 4 = 1 := by kernel_rfl
theorem trod_struct_clerk {H : Type} {enc : TypeId × Value → H} {P : Program} {w : World} {base : Nat} {spare : Nat → Bool} {held : Bool} {t : TypeId} {f0 f1 f2 f3 : Field} {fuel : Nat} {cs : List Value} {x : DataW H × List MemPlace} (ht : P.underlying t = some (.struct #[f0, f1, f2, f3])) (h : DataW.trod enc P w base spare held fuel t cs = some x) :
    ∃ y0 y1 y2 y3 n, x.1 = .agg [y0.1, y1.1, y2.1, y3.1] ∧ cs.length = P.cellsOf t ∧ DataW.trod enc P w base spare held n f0.type ((cs.drop f0.offset).take (P.cellsOf f0.type)) = some y0 ∧ DataW.trod enc P w base spare held n f1.type ((cs.drop f1.offset).take (P.cellsOf f1.type)) = some y1 ∧ DataW.trod enc P w base spare held n f2.type ((cs.drop f2.offset).take (P.cellsOf f2.type)) = some y2 ∧ DataW.trod enc P w base spare held n f3.type ((cs.drop f3.offset).take (P.cellsOf f3.type)) = some y3 := by
  obtain ⟨xs, n, _, rfl, hl, hlen, hf⟩ := DataW.trod_struct ht h
  match xs, hlen with
  | [y0, y1, y2, y3], _ => exact ⟨y0, y1, y2, y3, n, by simp, hl, by simpa using hf 0 f0 rfl, by simpa using hf 1 f1 rfl, by simpa using hf 2 f2 rfl, by simpa using hf 3 f3 rfl⟩
theorem list_clerk {α : Type} {cs : List α} (h : cs.length = 7) : ∃ c0 c1 c2 c3 c4 c5 c6, cs = [c0, c1, c2, c3, c4, c5, c6] := by
  match cs, h with
  | [c0, c1, c2, c3, c4, c5, c6], _ => exact ⟨c0, c1, c2, c3, c4, c5, c6, rfl⟩

set_option maxRecDepth 100000 in
set_option maxHeartbeats 1600000 in
theorem view_clerk {H : Type} {enc : TypeId × Value → H} {W : World} {base fuel : Nat} {held : Bool} {cs : List Value} {x : DataW H × List MemPlace}
    (h : DataW.trod enc Try.prog W base (fun _ => true) held fuel 87 cs = some x) (hw : ∀ y ∈ DataW.weights Try.prog 87 x.1, y ≤ reachBytes) :
    ∃ s : ClkD, ClkD.Is W cs s ∧ ClkD.Short s 1000000000000000 := by
  obtain ⟨y0, y1, y2, y3, n, hx, hl, h0, h1, h2, h3⟩ := trod_struct_clerk Try.underlying87 h
  rw [hx] at hw
  rw [Try.cellsClerk] at hl
  obtain ⟨c0, c1, c2, c3, c4, c5, c6, rfl⟩ := list_clerk hl
  simp only [Try.cellsInt, Try.cellsStrClerk, Try.cellsBoolClerk, Try.cellsAnswer, List.drop, List.take] at h0 h1 h2 h3
  obtain ⟨v0, e0, x0, _⟩ := DataW.trod_string Try.underlying9 h0
  have w0 : v0.size ≤ reachBytes := hw v0.size (by rw [x0]; simp [DataW.weights, DataW.weightsEach, Try.underlying87])
  unfold reachBytes at w0
  obtain ⟨v1, e1, _, _⟩ := DataW.trod_int Try.underlying3 h1
  obtain ⟨v2, e2, _⟩ := DataW.trod_bool Try.underlying4 h2
  obtain ⟨a, ia, sa⟩ := view_answer h3 (fun x hx => hw x (by simp [DataW.weights, DataW.weightsEach, Try.underlying87, hx]))
  obtain ⟨arw, crw, ea, hrw, srw⟩ := ia
  simp only [List.cons.injEq, and_true] at e0 e1 e2 ea
  obtain ⟨rfl, rfl, rfl, rfl⟩ := ea
  subst e0 e1 e2
  exact ⟨⟨v0, v1, v2, a.code, a.anam, a.price, a.rwn, a.rw⟩, ⟨arw, crw, rfl, hrw, srw⟩, ⟨(show v0.size ≤ _ by omega), sa⟩⟩
instance : Inhabited ClkD := ⟨⟨⟨#[]⟩, 0, false, 0, 0, 0, 0, fun _ => MRow.zero⟩⟩

set_option maxRecDepth 100000 in
theorem view_clerks {H : Type} {enc : TypeId × Value → H} {W : World} {base fuel : Nat} {held : Bool} {v : Value} {x : DataW H × List MemPlace}
    (h : DataW.trod enc Try.prog W base (fun _ => true) held fuel 37 [v] = some x) (hw : ∀ y ∈ DataW.weights Try.prog 37 x.1, y ≤ reachBytes) :
    ∃ ao n cap S, v = .slice ao n cap ∧ ClkDsAt W ao n S ∧ SliceOk ao n cap ∧ ClkDsShort n S 1000000000000000 ∧ n ≤ 1000000000000000 := by
  obtain ⟨ao, n, cap, C, rfl, hr, hl, hn, hb, hk⟩ := view_list Try.underlying37 Try.cellsClerk (by omega) Try.bytesClerk h hw
  have key : ∀ k, k < n → ∃ s : ClkD, ClkD.Is W (C k) s ∧ ClkD.Short s 1000000000000000 := by
    intro k hk'
    obtain ⟨_, fl, z, ht, hz⟩ := hk k hk'
    exact view_clerk ht hz
  obtain ⟨S, hS⟩ := choose_lt key
  exact ⟨ao, n, cap, S, rfl, ⟨C, hr, fun k hk' => (hS k hk').1⟩, ⟨hl, by unfold reachBytes at hb; omega, hn⟩, fun k hk' => (hS k hk').2, by unfold reachBytes at hb; omega⟩

set_option maxRecDepth 100000 in
theorem open_clerks {H : Type} {enc : TypeId × Value → H} {W : World} {base : Nat} {v : Value} {d : DataW H} {p : List MemPlace} (hv : Value.okWide Try.prog W .any base 37 v)
    (h : DataW.Trod enc Try.prog W 0 (fun _ => true) true 37 v d p) (hw : ∀ x ∈ DataW.weights Try.prog 37 d, x ≤ reachBytes) :
    ∃ ao N cap S, v = .slice ao N cap ∧ N ≤ 1000000000000000 ∧ ClkDsShort N S 1000000000000000 ∧ ClkDsAt W ao N S := by
  obtain ⟨fuel, hf⟩ := h
  rw [okWide_slice_is Try.underlying37 hv] at hf
  obtain ⟨ao, n, cap, S, e, h1, _, h2, h3⟩ := view_clerks hf hw
  exact ⟨ao, n, cap, S, e, h3, h2, h1⟩

end Go.Proofs.Ytogbaoggebghdaa

namespace Go.Proofs.Ytogbaoggebghdaa
open Go.ChangeShapes Go.WideShapes Go.ChangeAt Go.RowKit Go.Deep Go.Joins

set_option maxRecDepth 100000 in
theorem open_text {H : Type} {enc : TypeId × Value → H} {W : World} {base : Nat} {v : Value} {d : DataW H} {p : List MemPlace} (hv : Value.okWide Try.prog W .any base 9 v)
    (h : DataW.Trod enc Try.prog W 0 (fun _ => true) true 9 v d p) (hw : ∀ x ∈ DataW.weights Try.prog 9 d, x ≤ reachBytes) :
    ∃ s, v = .string s ∧ s.size ≤ 1000000000000000 := by
  obtain ⟨s, rfl⟩ := okWide_string Try.underlying9 hv
  obtain ⟨fuel, hf⟩ := h
  obtain ⟨s1, e1, x1, _⟩ := DataW.trod_string Try.underlying9 hf
  simp [Value.cells] at e1
  subst e1
  obtain ⟨rfl, rfl⟩ := Prod.mk.inj x1
  have w1 : s.size ≤ reachBytes := hw s.size (by simp [DataW.weights])
  exact ⟨s, rfl, by unfold reachBytes at w1; omega⟩

end Go.Proofs.Ytogbaoggebghdaa

namespace Go.Proofs.Ytogbaoggebghdaa
open Go.ChangeShapes Go.WideShapes Go.ChangeAt Go.RowKit Go.Deep Go.Joins

set_option maxRecDepth 100000 in
theorem askClerkRow_lifted (os : Os) (started : os.Started) (H : Type) (enc : TypeId × Value → H) :
    ReturnsInHanded {} Try.checked os 5 .any (Rows.fnExactAskClerkSpec.pre6 enc Try.prog Try.f5 Rows.fnExactAskClerkRow.domain false) (Rows.fnExactAskClerkSpec.post enc Try.prog Try.f5 false true false false) := by
  refine returnsInHanded_of_change_sized (C := Try.checked) Try.own started (by kernel_rfl) Try.func5
    (ChangeSpec.witness6 (enc := enc) (C := Try.checked) false ⟨#[], #[.slice none 0 0, .string ⟨#[]⟩, .int .i64 0], []⟩ 8 (by kernel_rfl) (by kernel_rfl) (by kernel_rfl) (by kernel_rfl)) ?_
  intro W base args ds gs before hval0 hW _ hsz0 _
  have hsz : (DataW.weightsEach Try.prog (Try.f5.params.toList ++ Rows.fnExactAskClerkSpec.plain.varTypes Try.prog) (ds ++ gs)).all (· ≤ reachBytes) = true := hsz0
  clear hsz0
  have hval : ∀ (j : Nat) t v, Try.f5.params[j]? = some t → args[j]? = some v → Value.okWide Try.prog W .any base t v := hval0
  have hW' := hW
  obtain ⟨p, q, hA0, hV, rfl, hfz, hnd⟩ := hW
  have hA : DataW.TrodAll enc Try.prog W 0 (fun _ => true) true Try.f5.params.toList args.toList ds p := hA0
  rw [Try.params5] at hA hval hsz
  obtain ⟨v0, vs0, d0, ds0, p0, q0, hargs, rfl, rfl, h0, r0⟩ := trodAll_cons hA
  obtain ⟨v1, vs1, d1, ds1, p1, q1, rfl, rfl, rfl, h1, r1⟩ := trodAll_cons r0
  obtain ⟨v2, vs2, d2, ds2, p2, q2, rfl, rfl, rfl, h2, r2⟩ := trodAll_cons r1
  obtain ⟨rfl, rfl, rfl⟩ := trodAll_nil r2
  obtain rfl : args = #[v0, v1, v2] := by cases args; simp_all
  obtain ⟨rfl, rfl⟩ := trodVars_none hV
  have k0 := h0
  have lt0 : ∀ x ∈ p0, x.block < W.heap.size := by obtain ⟨m, hm⟩ := k0; exact DataW.trod_lt m _ _ _ hm
  have hw0 : ∀ x ∈ DataW.weights Try.prog 37 d0, x ≤ reachBytes := by
    intro x hx
    have := List.all_eq_true.1 hsz x (by simp [DataW.weightsEach, hx])
    simpa using this
  obtain ⟨ao0, n0, c0, S0, rfl, hn0, hs0, hl0⟩ := open_clerks (hval 0 37 v0 rfl rfl) h0 hw0
  have k1 := h1
  have lt1 : ∀ x ∈ p1, x.block < W.heap.size := by obtain ⟨m, hm⟩ := k1; exact DataW.trod_lt m _ _ _ hm
  have hw1 : ∀ x ∈ DataW.weights Try.prog 9 d1, x ≤ reachBytes := by
    intro x hx
    have := List.all_eq_true.1 hsz x (by simp [DataW.weightsEach, hx])
    simpa using this
  obtain ⟨s1, rfl, hn1⟩ := open_text (hval 1 9 v1 rfl rfl) h1 hw1
  obtain ⟨z2, rfl, rfl, rfl, w2⟩ := open_int Try.underlying3 (hval 2 3 v2 rfl rfl) h2
  clear hA0 hval0
  refine (lawAskClerk ao0 n0 c0 S0 s1 z2 W hn0 hs0 hl0 hn1).mono fun e W' ⟨he, bel⟩ => ?_
  subst he
  exact ⟨_, rfl, _, _, _, [], _, [], hW', trodAll_mk1 (shut_bool Try.underlying4 _), (trodAll_cons_mk (Below.trod Try.laidOut (by kernel_rfl) (of_decide_eq_true (by kernel_rfl)) k0 bel lt0) (trodAll_cons_mk (Below.trod Try.laidOut (by kernel_rfl) (of_decide_eq_true (by kernel_rfl)) k1 bel lt1) (trodAll_cons_mk (shut_int Try.underlying3 w2) trodAll_mk0))), rfl, bel.frame _, fun h => by cases h⟩

theorem askClerkRow_holds : Rows.FnExactAskClerkSaid :=
  OpenClaim.holds_of_wide 5 Try.f5 rfl rfl rfl rfl rfl rfl rfl ⟨rfl, rfl, rfl, rfl, rfl⟩ rfl rfl rfl rfl rfl (by kernel_rfl) Try.func5 (by kernel_rfl)
    (of_decide_eq_true (by kernel_rfl)) (by unfold Func.isWrapper; first | (rw [if_pos (by decide +kernel)]; kernel_rfl) | (rw [if_neg (by decide +kernel)]; exact ⟨rfl, rfl⟩))
    (fun os started H enc _ => askClerkRow_lifted os started H enc)
#print axioms askClerkRow_holds

end Go.Proofs.Ytogbaoggebghdaa
