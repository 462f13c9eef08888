/-
  OWN TEXT: what is done that came in, opened; lists of what is done and of answers as arguments.
-/
import Derived.Test.YtcioofnmhfehaaaVOp
import Derived.Test.YtcioofnmhfehaaaVAnswer
import Derived.Test.YtcioofnmhfehaaaKitDone
namespace Go.Proofs.Ytcioofnmhfehaaa
open Go.ChangeShapes Go.WideShapes Go.ChangeAt Go.RowKit Go.Deep Go.Joins

theorem Try.cellsDone : Try.prog.cellsOf 49 = 17 := by kernel_rfl
theorem Try.bytesDone : Try.prog.bytesOf 49 = 176 := by kernel_rfl
theorem trod_struct_done {H : Type} {enc : TypeId × Value → H} {P : Program} {w : World} {base : Nat} {spare : Nat → Bool} {held : Bool} {t : TypeId} {f0 f1 f2 : Field} {fuel : Nat} {cs : List Value} {x : DataW H × List MemPlace} (ht : P.underlying t = some (.struct #[f0, f1, f2])) (h : DataW.trod enc P w base spare held fuel t cs = some x) :
    ∃ y0 y1 y2 n, x.1 = .agg [y0.1, y1.1, y2.1] ∧ cs.length = P.cellsOf t ∧ DataW.trod enc P w base spare held n f0.type ((cs.drop f0.offset).take (P.cellsOf f0.type)) = some y0 ∧ DataW.trod enc P w base spare held n f1.type ((cs.drop f1.offset).take (P.cellsOf f1.type)) = some y1 ∧ DataW.trod enc P w base spare held n f2.type ((cs.drop f2.offset).take (P.cellsOf f2.type)) = some y2 := by
  obtain ⟨xs, n, _, rfl, hl, hlen, hf⟩ := DataW.trod_struct ht h
  match xs, hlen with
  | [y0, y1, y2], _ => exact ⟨y0, y1, y2, n, by simp, hl, by simpa using hf 0 f0 rfl, by simpa using hf 1 f1 rfl, by simpa using hf 2 f2 rfl⟩
theorem list_done {α : Type} {cs : List α} (h : cs.length = 17) : ∃ c0 c1 c2 c3 c4 c5 c6 c7 c8 c9 c10 c11 c12 c13 c14 c15 c16, cs = [c0, c1, c2, c3, c4, c5, c6, c7, c8, c9, c10, c11, c12, c13, c14, c15, c16] := by
  match cs, h with
  | [c0, c1, c2, c3, c4, c5, c6, c7, c8, c9, c10, c11, c12, c13, c14, c15, c16], _ => exact ⟨c0, c1, c2, c3, c4, c5, c6, c7, c8, c9, c10, c11, c12, c13, c14, c15, c16, rfl⟩

set_option maxRecDepth 100000 in
set_option maxHeartbeats 1600000 in
theorem view_done {H : Type} {enc : TypeId × Value → H} {W : World} {base fuel : Nat} {held : Bool} {cs : List Value} {x : DataW H × List MemPlace}
    (h : DataW.trod enc Try.prog W base (fun _ => true) held fuel 49 cs = some x) (hw : ∀ y ∈ DataW.weights Try.prog 49 x.1, y ≤ reachBytes) :
    ∃ s : DoneD, DoneD.Is W cs s ∧ DoneD.Short s 1000000000000000 := by
  obtain ⟨y0, y1, y2, n, hx, hl, h0, h1, h2⟩ := trod_struct_done Try.underlying49 h
  rw [hx] at hw
  rw [Try.cellsDone] at hl
  obtain ⟨c0, c1, c2, c3, c4, c5, c6, c7, c8, c9, c10, c11, c12, c13, c14, c15, c16, rfl⟩ := list_done hl
  simp only [Try.cellsInt, Try.cellsOp, Try.cellsAnswer, List.drop, List.take] at h0 h1 h2
  obtain ⟨v0, e0, _, _⟩ := DataW.trod_int Try.underlying3 h0
  obtain ⟨p, ip, sp⟩ := view_op h1 (fun x hx => hw x (by simp [DataW.weights, DataW.weightsEach, Try.underlying49, hx]))
  obtain ⟨a, ia, sa⟩ := view_answer h2 (fun x hx => hw x (by simp [DataW.weights, DataW.weightsEach, Try.underlying49, hx]))
  obtain ⟨alg, clg, ep, hlg, slg⟩ := ip
  obtain ⟨arw, crw, ea, hrw, srw⟩ := ia
  simp only [List.cons.injEq, and_true] at e0 ep ea
  obtain ⟨rfl, rfl, rfl, rfl, rfl, rfl, rfl, rfl, rfl, rfl, rfl, rfl⟩ := ep
  obtain ⟨rfl, rfl, rfl, rfl⟩ := ea
  subst e0
  exact ⟨⟨v0, p.kind, p.own, p.name, p.lgn, p.lg, p.pe, p.len, p.hei, p.cl, p.all, p.be, p.unt, p.now, a.code, a.anam, a.price, a.rwn, a.rw⟩, ⟨alg, clg, arw, crw, rfl, hlg, slg, hrw, srw⟩, ⟨sp.1, sp.2, sa⟩⟩
instance : Inhabited DoneD := ⟨⟨0, 0, ⟨#[]⟩, 0, 0, fun _ => 0, 0, 0, 0, 0, false, 0, 0, 0, 0, 0, 0, 0, fun _ => MRow.zero⟩⟩

set_option maxRecDepth 100000 in
theorem view_dones {H : Type} {enc : TypeId × Value → H} {W : World} {base fuel : Nat} {held : Bool} {v : Value} {x : DataW H × List MemPlace}
    (h : DataW.trod enc Try.prog W base (fun _ => true) held fuel 22 [v] = some x) (hw : ∀ y ∈ DataW.weights Try.prog 22 x.1, y ≤ reachBytes) :
    ∃ ao n cap S, v = .slice ao n cap ∧ DoneDsAt W ao n S ∧ SliceOk ao n cap ∧ DoneDsShort n S 1000000000000000 ∧ n ≤ 1000000000000000 := by
  obtain ⟨ao, n, cap, C, rfl, hr, hl, hn, hb, hk⟩ := view_list Try.underlying22 Try.cellsDone (by omega) Try.bytesDone h hw
  have key : ∀ k, k < n → ∃ s : DoneD, DoneD.Is W (C k) s ∧ DoneD.Short s 1000000000000000 := by
    intro k hk'
    obtain ⟨_, fl, z, ht, hz⟩ := hk k hk'
    exact view_done ht hz
  obtain ⟨S, hS⟩ := choose_lt key
  exact ⟨ao, n, cap, S, rfl, ⟨C, hr, fun k hk' => (hS k hk').1⟩, ⟨hl, by unfold reachBytes at hb; omega, hn⟩, fun k hk' => (hS k hk').2, by unfold reachBytes at hb; omega⟩

theorem open_dones {H : Type} {enc : TypeId × Value → H} {W : World} {base : Nat} {v : Value} {d : DataW H} {p : List MemPlace} (hv : Value.okWide Try.prog W .any base 22 v)
    (h : DataW.Trod enc Try.prog W 0 (fun _ => true) true 22 v d p) (hw : ∀ x ∈ DataW.weights Try.prog 22 d, x ≤ reachBytes) :
    ∃ ao N cap S, v = .slice ao N cap ∧ N ≤ 1000000000000000 ∧ DoneDsShort N S 1000000000000000 ∧ DoneDsAt W ao N S := by
  obtain ⟨fuel, hf⟩ := h
  rw [okWide_slice_is Try.underlying22 hv] at hf
  obtain ⟨ao, n, cap, S, e, h1, _, h2, h3⟩ := view_dones hf hw
  exact ⟨ao, n, cap, S, e, h3, h2, h1⟩
theorem open_answers {H : Type} {enc : TypeId × Value → H} {W : World} {base : Nat} {v : Value} {d : DataW H} {p : List MemPlace} (hv : Value.okWide Try.prog W .any base 33 v)
    (h : DataW.Trod enc Try.prog W 0 (fun _ => true) true 33 v d p) (hw : ∀ x ∈ DataW.weights Try.prog 33 d, x ≤ reachBytes) :
    ∃ ao N cap S, v = .slice ao N cap ∧ N ≤ 1000000000000000 ∧ AnsDsShort N S 1000000000000000 ∧ AnsDsAt W ao N S := by
  obtain ⟨fuel, hf⟩ := h
  rw [okWide_slice_is Try.underlying33 hv] at hf
  obtain ⟨ao, n, cap, S, e, h1, _, h2, h3⟩ := view_answers hf hw
  exact ⟨ao, n, cap, S, e, h3, h2, h1⟩

end Go.Proofs.Ytcioofnmhfehaaa
