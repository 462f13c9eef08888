/-
  OWN TEXT: laws.FnExactGoodArena returns true for every arena that comes in, and the arena reads behind the call as before it. No condition.
-/
import Derived.Test.YteniifnhbogbkaeLawGood
import Derived.Test.YteniifnhbogbkaeViews
namespace Go.Proofs.Yteniifnhbogbkae
open Go.ChangeShapes Go.WideShapes Go.ChangeAt Go.RowKit Go.Deep Go.Joins

theorem Try.own : ownKnob Try.prog.godebug = none := by kernel_rfl
theorem Try.laidOut : laidOutB Try.prog = true := by kernel_rfl
theorem Try.cellsArena : Try.prog.cellsOf 34 = 2 := by kernel_rfl
theorem Try.cellsSlot : Try.prog.cellsOf 92 = 3 := by kernel_rfl
theorem Try.cellsInt : Try.prog.cellsOf 3 = 1 := by kernel_rfl
theorem Try.cellsBool : Try.prog.cellsOf 4 = 1 := by kernel_rfl
theorem Try.bytesSlot : Try.prog.bytesOf 92 = 24 := by kernel_rfl
theorem Try.bytesInt : Try.prog.bytesOf 3 = 8 := by kernel_rfl

/-- An arena that came in, opened. -/
theorem open_arena {H : Type} {enc : TypeId × Value → H} {W : World} {base : Nat} {v : Value} {d : DataW H} {p : List MemPlace} (hv : Value.okWide Try.prog W .any base 34 v)
    (h : DataW.Trod enc Try.prog W 0 (fun _ => true) true 34 v d p) (hw : ∀ x ∈ DataW.weights Try.prog 34 d, x ≤ reachBytes) :
    ∃ ao bo n m c1 c2 A U V F, v = .agg #[.slice ao n c1, .slice bo m c2] ∧ n ≤ 1000000000000000 ∧ m ≤ 1000000000000000 ∧ SlotsAt W ao n A U V ∧ IntsAt W bo m F := by
  obtain ⟨v0, v1, y0, y1, fl, rfl, rfl, rfl, h0, h1⟩ := open_agg2 Try.underlying34 (by kernel_rfl) Try.cellsArena hv h
  obtain ⟨ao, n, c1, A, U, V, rfl, _, _, _, hs, l0⟩ := view_slots Try.underlying31 Try.underlying92 Try.cellsSlot rfl rfl rfl rfl rfl rfl Try.underlying3 Try.underlying4 Try.cellsInt Try.cellsBool h0
  obtain ⟨bo, m, c2, F, rfl, _, _, _, hf, l1⟩ := view_ints Try.underlying32 Try.underlying3 Try.cellsInt h1
  have r0 := len_reach Try.underlying31 Try.bytesSlot l0 (fun x hx => hw x (by simp [DataW.weights, DataW.weightsEach, Try.underlying34, hx]))
  have r1 := len_reach Try.underlying32 Try.bytesInt l1 (fun x hx => hw x (by simp [DataW.weights, DataW.weightsEach, Try.underlying34, hx]))
  unfold reachBytes at r0 r1
  exact ⟨ao, bo, n, m, c1, c2, A, U, V, F, rfl, by omega, by omega, hs, hf⟩

set_option maxRecDepth 100000 in
theorem goodArena_lifted (os : Os) (started : os.Started) (H : Type) (enc : TypeId × Value → H) :
    ReturnsInHanded {} Try.checked os 4 .any (Rows.fnExactGoodArenaSpec.pre6 enc Try.prog Try.f4 Rows.fnExactGoodArenaRow.domain false) (Rows.fnExactGoodArenaSpec.post enc Try.prog Try.f4 false true false false) := by
  refine returnsInHanded_of_change_sized (C := Try.checked) Try.own started (by kernel_rfl) Try.func4
    (ChangeSpec.witness6 (enc := enc) (C := Try.checked) false ⟨#[], #[.agg #[.slice none 0 0, .slice none 0 0]], []⟩ 8 (by kernel_rfl) (by kernel_rfl) (by kernel_rfl) (by kernel_rfl)) ?_
  intro W base args ds gs before hval0 hW _ hsz0 _
  have hsz : (DataW.weightsEach Try.prog (Try.f4.params.toList ++ Rows.fnExactGoodArenaSpec.plain.varTypes Try.prog) (ds ++ gs)).all (· ≤ reachBytes) = true := hsz0
  clear hsz0
  have hval : ∀ (j : Nat) t v, Try.f4.params[j]? = some t → args[j]? = some v → Value.okWide Try.prog W .any base t v := hval0
  have hW' := hW
  obtain ⟨p, q, hA0, hV, rfl, hfz, hnd⟩ := hW
  have hA : DataW.TrodAll enc Try.prog W 0 (fun _ => true) true Try.f4.params.toList args.toList ds p := hA0
  rw [Try.params4] at hA hval hsz
  obtain ⟨v0, vs0, d0, ds0, p0, q0, hargs, rfl, rfl, h0, r0⟩ := trodAll_cons hA
  obtain ⟨rfl, rfl, rfl⟩ := trodAll_nil r0
  obtain rfl : args = #[v0] := by cases args; simp_all
  obtain ⟨rfl, rfl⟩ := trodVars_none hV
  have k0 := h0
  have lt0 : ∀ x ∈ p0, x.block < W.heap.size := by obtain ⟨m, hm⟩ := k0; exact DataW.trod_lt m _ _ _ hm
  have hw0 : ∀ x ∈ DataW.weights Try.prog 34 d0, x ≤ reachBytes := by
    intro x hx
    have := List.all_eq_true.1 hsz x (by simp [DataW.weightsEach, hx])
    simpa using this
  obtain ⟨ao, bo, n, m, c1, c2, A, U, V, F, rfl, hn, hm, hs, hf⟩ := open_arena (hval 0 34 v0 rfl rfl) h0 hw0
  clear hA0 hval0
  refine (lawGoodArena ao bo n m c1 c2 A U V F W hn hm hs hf).mono fun e W' ⟨he, bel⟩ => ?_
  subst he
  exact ⟨_, rfl, _, _, _, [], _, [], hW', trodAll_mk1 (shut_bool Try.underlying4 _), trodAll_cons_mk (Below.trod Try.laidOut (by kernel_rfl) (of_decide_eq_true (by kernel_rfl)) k0 bel lt0) trodAll_mk0, rfl, bel.frame _, fun h => by cases h⟩

theorem goodArena_holds : Rows.FnExactGoodArenaSaid :=
  OpenClaim.holds_of_wide 4 Try.f4 rfl rfl rfl rfl rfl rfl rfl ⟨rfl, rfl, rfl, rfl, rfl⟩ rfl rfl rfl rfl rfl (by kernel_rfl) Try.func4 (by kernel_rfl)
    (of_decide_eq_true (by kernel_rfl)) (by unfold Func.isWrapper; first | (rw [if_pos (by decide +kernel)]; kernel_rfl) | (rw [if_neg (by decide +kernel)]; exact ⟨rfl, rfl⟩))
    (fun os started H enc _ => goodArena_lifted os started H enc)
#print axioms goodArena_holds

end Go.Proofs.Yteniifnhbogbkae
