/-
  OWN TEXT: VOffice, PLeft (the last: FnExactRoomLeft holds, at every argument, with no condition).
-/
import Derived.Test.YtaopapjnhlombaaGreatB40
import Derived.Test.YtaopapjnhlombaaGreatB42
import Derived.Test.YtaopapjnhlombaaGreatB43
import Derived.Test.YtaopapjnhlombaaGreatB10
import Derived.Test.YtaopapjnhlombaaGreatB38
namespace Go.Proofs.YtaopapjnhlombaaGreat
open Go.ChangeShapes Go.WideShapes Go.ChangeAt Go.RowKit Go.Deep Go.Joins

theorem Tryz.cellsOffice : Tryz.prog.cellsOf 26 = 3 := by kernel_rfl
theorem Tryz.cellsBookSOffice : Tryz.prog.cellsOf 24 = 1 := by kernel_rfl
theorem Tryz.cellsLoadSOffice : Tryz.prog.cellsOf 23 = 1 := by kernel_rfl
theorem Tryz.cellsSailSOffice : Tryz.prog.cellsOf 22 = 1 := by kernel_rfl
theorem trod_struct_office {H : Type} {enc : TypeId × Value → H} {P : Program} {w : World} {base : Nat} {spare : Nat → Bool} {held : Bool} {t : TypeId} {f0 f1 f2 : Field} {fuel : Nat} {cs : List Value} {x : DataW H × List MemPlace} (ht : P.underlying t = some (.struct #[f0, f1, f2])) (h : DataW.trod enc P w base spare held fuel t cs = some x) :
    ∃ y0 y1 y2 n, x.1 = .agg [y0.1, y1.1, y2.1] ∧ cs.length = P.cellsOf t ∧ DataW.trod enc P w base spare held n f0.type ((cs.drop f0.offset).take (P.cellsOf f0.type)) = some y0 ∧ DataW.trod enc P w base spare held n f1.type ((cs.drop f1.offset).take (P.cellsOf f1.type)) = some y1 ∧ DataW.trod enc P w base spare held n f2.type ((cs.drop f2.offset).take (P.cellsOf f2.type)) = some y2 := by
  obtain ⟨xs, n, _, rfl, hl, hlen, hf⟩ := DataW.trod_struct ht h
  match xs, hlen with
  | [y0, y1, y2], _ => exact ⟨y0, y1, y2, n, by simp, hl, by simpa using hf 0 f0 rfl, by simpa using hf 1 f1 rfl, by simpa using hf 2 f2 rfl⟩
theorem list_office {α : Type} {cs : List α} (h : cs.length = 3) : ∃ c0 c1 c2, cs = [c0, c1, c2] := by
  match cs, h with
  | [c0, c1, c2], _ => exact ⟨c0, c1, c2, rfl⟩

set_option maxRecDepth 100000 in
set_option maxHeartbeats 1600000 in
/-- The cells of an office that came in. -/
theorem view_office {H : Type} {enc : TypeId × Value → H} {W : World} {base fuel : Nat} {held : Bool} {cs : List Value} {x : DataW H × List MemPlace}
    (h : DataW.trod enc Tryz.prog W base (fun _ => true) held fuel 26 cs = some x) (hw : ∀ y ∈ DataW.weights Tryz.prog 26 x.1, y ≤ reachBytes) :
    ∃ s : Off, Off.Is W cs s ∧ Off.Short s 1000000000000000 := by
  obtain ⟨y0, y1, y2, n, hx, hl, h0, h1, h2⟩ := trod_struct_office Tryz.underlying26 h
  rw [hx] at hw
  rw [Tryz.cellsOffice] at hl
  obtain ⟨c0, c1, c2, rfl⟩ := list_office hl
  simp only [Tryz.cellsBookSOffice, Tryz.cellsLoadSOffice, Tryz.cellsSailSOffice, List.drop, List.take] at h0 h1 h2
  obtain ⟨asa, nsa, csa, lsa, e0, gsa, ssa, zsa, qsa⟩ := view_sails h0 (fun x hx => hw x (by simp [DataW.weights, DataW.weightsEach, Tryz.underlying26, hx]))
  obtain ⟨ald, nld, cld, lld, e1, gld, sld, zld, qld⟩ := view_loads h1 (fun x hx => hw x (by simp [DataW.weights, DataW.weightsEach, Tryz.underlying26, hx]))
  obtain ⟨abk, nbk, cbk, lbk, e2, gbk, sbk, zbk, qbk⟩ := view_bookings h2 (fun x hx => hw x (by simp [DataW.weights, DataW.weightsEach, Tryz.underlying26, hx]))
  subst e0 e1 e2
  exact ⟨⟨nsa, lsa, nld, lld, nbk, lbk⟩, ⟨asa, csa, ald, cld, abk, cbk, rfl, gsa, ssa, gld, sld, gbk, sbk⟩, ⟨⟨(show nsa ≤ _ from qsa), zsa⟩, ⟨(show nld ≤ _ from qld), zld⟩, ⟨(show nbk ≤ _ from qbk), zbk⟩⟩⟩

set_option maxRecDepth 100000 in
/-- By value. -/
theorem open_office {H : Type} {enc : TypeId × Value → H} {W : World} {base : Nat} {v : Value} {d : DataW H} {p : List MemPlace} (hv : Value.okWide Tryz.prog W .any base 26 v)
    (h : DataW.Trod enc Tryz.prog W 0 (fun _ => true) true 26 v d p) (hw : ∀ x ∈ DataW.weights Tryz.prog 26 d, x ≤ reachBytes) :
    ∃ (cs : List Value) (s : Off), v = .agg cs.toArray ∧ Off.Is W cs s ∧ Off.Short s 1000000000000000 := by
  obtain ⟨cs, rfl, _⟩ := okWide_struct Tryz.underlying26 hv
  obtain ⟨fuel, hf⟩ := h
  obtain ⟨s, h1, h2⟩ := view_office hf hw
  exact ⟨cs.toList, s, by simp, by simpa [Value.cells] using h1, h2⟩

end Go.Proofs.YtaopapjnhlombaaGreat

namespace Go.Proofs.YtaopapjnhlombaaGreat
open Go.ChangeShapes Go.WideShapes Go.ChangeAt Go.RowKit Go.Deep Go.Joins

set_option maxRecDepth 100000 in
theorem roomLeft_lifted (os : Os) (started : os.Started) (H : Type) (enc : TypeId × Value → H) :
    ReturnsInHanded {} Tryz.checked os 3 .any (Rows.fnExactRoomLeftSpec.pre6 enc Tryz.prog Tryz.f3 Rows.fnExactRoomLeftRow.domain false) (Rows.fnExactRoomLeftSpec.post enc Tryz.prog Tryz.f3 false true false false) := by
  refine returnsInHanded_of_change_sized (C := Tryz.checked) Tryz.own started (by kernel_rfl) Tryz.func3
    (ChangeSpec.witness6 (enc := enc) (C := Tryz.checked) false ⟨#[], #[.agg #[.slice none 0 0, .slice none 0 0, .slice none 0 0], .int .i64 0], []⟩ 8 (by kernel_rfl) (by kernel_rfl) (by kernel_rfl) (by kernel_rfl)) ?_
  intro W base args ds gs before hval0 hW _ hsz0 _
  have hsz : (DataW.weightsEach Tryz.prog (Tryz.f3.params.toList ++ Rows.fnExactRoomLeftSpec.plain.varTypes Tryz.prog) (ds ++ gs)).all (· ≤ reachBytes) = true := hsz0
  clear hsz0
  have hval : ∀ (j : Nat) t v, Tryz.f3.params[j]? = some t → args[j]? = some v → Value.okWide Tryz.prog W .any base t v := hval0
  have hW' := hW
  obtain ⟨p, q, hA0, hV, rfl, hfz, hnd⟩ := hW
  have hA : DataW.TrodAll enc Tryz.prog W 0 (fun _ => true) true Tryz.f3.params.toList args.toList ds p := hA0
  rw [Tryz.params3] at hA hval hsz
  obtain ⟨v0, vs0, d0, ds0, p0, q0, hargs, rfl, rfl, h0, r0⟩ := trodAll_cons hA
  obtain ⟨v1, vs1, d1, ds1, p1, q1, rfl, rfl, rfl, h1, r1⟩ := trodAll_cons r0
  obtain ⟨rfl, rfl, rfl⟩ := trodAll_nil r1
  obtain rfl : args = #[v0, v1] := by cases args; simp_all
  obtain ⟨rfl, rfl⟩ := trodVars_none hV
  have k0 := h0
  have lt0 : ∀ x ∈ p0, x.block < W.heap.size := by obtain ⟨m, hm⟩ := k0; exact DataW.trod_lt m _ _ _ hm
  have hw0 : ∀ x ∈ DataW.weights Tryz.prog 26 d0, x ≤ reachBytes := by
    intro x hx
    have := List.all_eq_true.1 hsz x (by simp [DataW.weightsEach, hx])
    simpa using this
  obtain ⟨cs0, y0, rfl, hi0, hs0⟩ := open_office (hval 0 26 v0 rfl rfl) h0 hw0
  obtain ⟨z1, rfl, rfl, rfl, w1⟩ := open_int Tryz.underlying3 (hval 1 3 v1 rfl rfl) h1
  clear hA0 hval0
  refine (lawRoomLeft cs0 y0 z1 W hs0 hi0).mono fun e W' ⟨he, bel⟩ => ?_
  subst he
  exact ⟨_, rfl, _, _, _, [], _, [], hW', trodAll_mk1 (shut_bool Tryz.underlying4 _), (trodAll_cons_mk (Below.trod Tryz.laidOut (by kernel_rfl) (of_decide_eq_true (by kernel_rfl)) k0 bel lt0) (trodAll_cons_mk (shut_int Tryz.underlying3 w1) trodAll_mk0)), rfl, bel.frame _, fun h => by cases h⟩

theorem roomLeft_holds : Rows.FnExactRoomLeftSaid :=
  OpenClaim.holds_of_wide 3 Tryz.f3 rfl rfl rfl rfl rfl rfl rfl ⟨rfl, rfl, rfl, rfl, rfl⟩ rfl rfl rfl rfl rfl (by kernel_rfl) Tryz.func3 (by kernel_rfl)
    (of_decide_eq_true (by kernel_rfl)) (by unfold Func.isWrapper; first | (rw [if_pos (by decide +kernel)]; kernel_rfl) | (rw [if_neg (by decide +kernel)]; exact ⟨rfl, rfl⟩))
    (fun os started H enc _ => roomLeft_lifted os started H enc)
#print axioms roomLeft_holds

end Go.Proofs.YtaopapjnhlombaaGreat
