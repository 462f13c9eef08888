/-
  OWN TEXT: VBooking, VOffice, PView (the last: FnExactViewOf holds, at every argument, with no condition).
-/
import Derived.Test.YtlelckbeoclhbaaGreatB06
import Derived.Test.YtlelckbeoclhbaaGreatB07
import Derived.Test.YtlelckbeoclhbaaGreatB41
import Derived.Test.YtlelckbeoclhbaaGreatB01
import Derived.Test.YtlelckbeoclhbaaGreatB34
import Derived.Test.YtlelckbeoclhbaaGreatB35
import Derived.Test.YtlelckbeoclhbaaGreatB08
import Derived.Test.YtlelckbeoclhbaaGreatB39
import Derived.Test.YtlelckbeoclhbaaGreatB10
import Derived.Test.YtlelckbeoclhbaaGreatB38
set_option maxHeartbeats 12800000
set_option maxRecDepth 100000
namespace Go.Proofs.YtlelckbeoclhbaaGreat
open Go.ChangeShapes Go.WideShapes Go.ChangeAt Go.RowKit Go.Deep Go.Joins
theorem Tryz.cellsBooking : Tryz.prog.cellsOf 105 = 13 := by kernel_rfl
theorem Tryz.cellsIntSBooking : Tryz.prog.cellsOf 31 = 1 := by kernel_rfl
theorem Tryz.bytesBooking : Tryz.prog.bytesOf 105 = 128 := by kernel_rfl
theorem Tryz.cellsStrBooking : Tryz.prog.cellsOf 9 = 1 := by kernel_rfl
theorem trod_struct_booking {H : Type} {enc : TypeId × Value → H} {P : Program} {w : World} {base : Nat} {spare : Nat → Bool} {held : Bool} {t : TypeId} {f0 f1 f2 f3 f4 f5 f6 f7 : Field} {fuel : Nat} {cs : List Value} {x : DataW H × List MemPlace} (ht : P.underlying t = some (.struct #[f0, f1, f2, f3, f4, f5, f6, f7])) (h : DataW.trod enc P w base spare held fuel t cs = some x) :
    ∃ y0 y1 y2 y3 y4 y5 y6 y7 n, x.1 = .agg [y0.1, y1.1, y2.1, y3.1, y4.1, y5.1, y6.1, y7.1] ∧ cs.length = P.cellsOf t ∧ DataW.trod enc P w base spare held n f0.type ((cs.drop f0.offset).take (P.cellsOf f0.type)) = some y0 ∧ DataW.trod enc P w base spare held n f1.type ((cs.drop f1.offset).take (P.cellsOf f1.type)) = some y1 ∧ DataW.trod enc P w base spare held n f2.type ((cs.drop f2.offset).take (P.cellsOf f2.type)) = some y2 ∧ DataW.trod enc P w base spare held n f3.type ((cs.drop f3.offset).take (P.cellsOf f3.type)) = some y3 ∧ DataW.trod enc P w base spare held n f4.type ((cs.drop f4.offset).take (P.cellsOf f4.type)) = some y4 ∧ DataW.trod enc P w base spare held n f5.type ((cs.drop f5.offset).take (P.cellsOf f5.type)) = some y5 ∧ DataW.trod enc P w base spare held n f6.type ((cs.drop f6.offset).take (P.cellsOf f6.type)) = some y6 ∧ DataW.trod enc P w base spare held n f7.type ((cs.drop f7.offset).take (P.cellsOf f7.type)) = some y7 := by
  obtain ⟨xs, n, _, rfl, hl, hlen, hf⟩ := DataW.trod_struct ht h
  match xs, hlen with
  | [y0, y1, y2, y3, y4, y5, y6, y7], _ => exact ⟨y0, y1, y2, y3, y4, y5, y6, y7, n, by simp, hl, by simpa using hf 0 f0 rfl, by simpa using hf 1 f1 rfl, by simpa using hf 2 f2 rfl, by simpa using hf 3 f3 rfl, by simpa using hf 4 f4 rfl, by simpa using hf 5 f5 rfl, by simpa using hf 6 f6 rfl, by simpa using hf 7 f7 rfl⟩
theorem list_booking {α : Type} {cs : List α} (h : cs.length = 13) : ∃ c0 c1 c2 c3 c4 c5 c6 c7 c8 c9 c10 c11 c12, cs = [c0, c1, c2, c3, c4, c5, c6, c7, c8, c9, c10, c11, c12] := by
  match cs, h with
  | [c0, c1, c2, c3, c4, c5, c6, c7, c8, c9, c10, c11, c12], _ => exact ⟨c0, c1, c2, c3, c4, c5, c6, c7, c8, c9, c10, c11, c12, rfl⟩
theorem view_booking {H : Type} {enc : TypeId × Value → H} {W : World} {base fuel : Nat} {held : Bool} {cs : List Value} {x : DataW H × List MemPlace}
    (h : DataW.trod enc Tryz.prog W base (fun _ => true) held fuel 105 cs = some x) (hw : ∀ y ∈ DataW.weights Tryz.prog 105 x.1, y ≤ reachBytes) :
    ∃ s : Book, Book.Is W cs s ∧ Book.Short s 1000000000000000 := by
  obtain ⟨y0, y1, y2, y3, y4, y5, y6, y7, n, hx, hl, h0, h1, h2, h3, h4, h5, h6, h7⟩ := trod_struct_booking Tryz.underlying105 h
  rw [hx] at hw
  rw [Tryz.cellsBooking] at hl
  obtain ⟨c0, c1, c2, c3, c4, c5, c6, c7, c8, c9, c10, c11, c12, rfl⟩ := list_booking hl
  simp only [Tryz.cellsInt, Tryz.cellsStrBooking, Tryz.cellsIntSBooking, Tryz.cellsParty, List.drop, List.take] at h0 h1 h2 h3 h4 h5 h6 h7
  obtain ⟨v0, e0, _, _⟩ := DataW.trod_int Tryz.underlying3 h0
  obtain ⟨v1, e1, _, _⟩ := DataW.trod_int Tryz.underlying3 h1
  obtain ⟨v2, e2, x2, _⟩ := DataW.trod_string Tryz.underlying9 h2
  have w2 : v2.size ≤ reachBytes := hw v2.size (by rw [x2]; simp [DataW.weights, DataW.weightsEach, Tryz.underlying105])
  unfold reachBytes at w2
  obtain ⟨alg, nlg, clg, llg, e3, glg, slg, nlgs⟩ := view_ints' h3 (fun x hx => hw x (by simp [DataW.weights, DataW.weightsEach, Tryz.underlying105, hx]))
  obtain ⟨p0, p1, p2, p3, p4, p5, m, _, k0, k1, k2, k3, k4, k5⟩ := trod_struct6 Tryz.underlying103 h4
  simp only [Tryz.cellsInt, Tryz.cellsBool, List.drop, List.take] at k0 k1 k2 k3 k4 k5
  obtain ⟨v4, e4, _, _⟩ := DataW.trod_int Tryz.underlying3 k0
  obtain ⟨v5, e5, _, _⟩ := DataW.trod_int Tryz.underlying3 k1
  obtain ⟨v6, e6, _, _⟩ := DataW.trod_int Tryz.underlying3 k2
  obtain ⟨v7, e7, _, _⟩ := DataW.trod_int Tryz.underlying3 k3
  obtain ⟨v8, e8, _⟩ := DataW.trod_bool Tryz.underlying4 k4
  obtain ⟨v9, e9, _, _⟩ := DataW.trod_int Tryz.underlying3 k5
  obtain ⟨v10, e10, _, _⟩ := DataW.trod_int Tryz.underlying3 h5
  obtain ⟨v11, e11, _, _⟩ := DataW.trod_int Tryz.underlying3 h6
  obtain ⟨v12, e12, _, _⟩ := DataW.trod_int Tryz.underlying3 h7
  simp at e0 e1 e2 e4 e5 e6 e7 e8 e9 e10 e11 e12
  subst e0 e1 e2 e4 e5 e6 e7 e8 e9 e10 e11 e12
  subst e3
  exact ⟨⟨v0, v1, v2, nlg, llg, v4, v5, v6, v7, v8, v9, v10, v11, v12⟩, ⟨alg, clg, rfl, glg, slg⟩, ⟨(show v2.size ≤ _ by omega), (show nlg ≤ _ from nlgs)⟩⟩
instance : Inhabited Book := ⟨⟨0, 0, ⟨#[]⟩, 0, fun _ => 0, 0, 0, 0, 0, false, 0, 0, 0, 0⟩⟩
theorem view_bookings {H : Type} {enc : TypeId × Value → H} {W : World} {base fuel : Nat} {held : Bool} {v : Value} {x : DataW H × List MemPlace}
    (h : DataW.trod enc Tryz.prog W base (fun _ => true) held fuel 24 [v] = some x) (hw : ∀ y ∈ DataW.weights Tryz.prog 24 x.1, y ≤ reachBytes) :
    ∃ ao n cap S, v = .slice ao n cap ∧ BooksAt W ao n S ∧ SliceOk ao n cap ∧ BooksShort n S 1000000000000000 ∧ n ≤ 1000000000000000 := by
  obtain ⟨ao, n, cap, C, rfl, hr, hl, hn, hb, hk⟩ := view_list Tryz.underlying24 Tryz.cellsBooking (by omega) Tryz.bytesBooking h hw
  have key : ∀ k, k < n → ∃ s : Book, Book.Is W (C k) s ∧ Book.Short s 1000000000000000 := by
    intro k hk'
    obtain ⟨_, fl, z, ht, hz⟩ := hk k hk'
    exact view_booking ht hz
  obtain ⟨S, hS⟩ := choose_lt key
  exact ⟨ao, n, cap, S, rfl, ⟨C, hr, fun k hk' => (hS k hk').1⟩, ⟨hl, by unfold reachBytes at hb; omega, hn⟩, fun k hk' => (hS k hk').2, by unfold reachBytes at hb; omega⟩
theorem open_booking {H : Type} {enc : TypeId × Value → H} {W : World} {base : Nat} {v : Value} {d : DataW H} {p : List MemPlace} (hv : Value.okWide Tryz.prog W .any base 105 v)
    (h : DataW.Trod enc Tryz.prog W 0 (fun _ => true) true 105 v d p) (hw : ∀ x ∈ DataW.weights Tryz.prog 105 d, x ≤ reachBytes) :
    ∃ (cs : List Value) (s : Book), v = .agg cs.toArray ∧ Book.Is W cs s ∧ Book.Short s 1000000000000000 := by
  obtain ⟨cs, rfl, _⟩ := okWide_struct Tryz.underlying105 hv
  obtain ⟨fuel, hf⟩ := h
  obtain ⟨s, h1, h2⟩ := view_booking hf hw
  exact ⟨cs.toList, s, by simp, by simpa [Value.cells] using h1, h2⟩
end Go.Proofs.YtlelckbeoclhbaaGreat

namespace Go.Proofs.YtlelckbeoclhbaaGreat
open Go.ChangeShapes Go.WideShapes Go.ChangeAt Go.RowKit Go.Deep Go.Joins
theorem Tryz.cellsOffice : Tryz.prog.cellsOf 26 = 3 := by kernel_rfl
theorem Tryz.cellsBookSOffice : Tryz.prog.cellsOf 24 = 1 := by kernel_rfl
theorem Tryz.cellsLoadSOffice : Tryz.prog.cellsOf 23 = 1 := by kernel_rfl
theorem Tryz.cellsSailSOffice : Tryz.prog.cellsOf 22 = 1 := by kernel_rfl
theorem trod_struct_office {H : Type} {enc : TypeId × Value → H} {P : Program} {w : World} {base : Nat} {spare : Nat → Bool} {held : Bool} {t : TypeId} {f0 f1 f2 : Field} {fuel : Nat} {cs : List Value} {x : DataW H × List MemPlace} (ht : P.underlying t = some (.struct #[f0, f1, f2])) (h : DataW.trod enc P w base spare held fuel t cs = some x) :
    ∃ y0 y1 y2 n, x.1 = .agg [y0.1, y1.1, y2.1] ∧ cs.length = P.cellsOf t ∧ DataW.trod enc P w base spare held n f0.type ((cs.drop f0.offset).take (P.cellsOf f0.type)) = some y0 ∧ DataW.trod enc P w base spare held n f1.type ((cs.drop f1.offset).take (P.cellsOf f1.type)) = some y1 ∧ DataW.trod enc P w base spare held n f2.type ((cs.drop f2.offset).take (P.cellsOf f2.type)) = some y2 := by
  obtain ⟨xs, n, _, rfl, hl, hlen, hf⟩ := DataW.trod_struct ht h
  match xs, hlen with
  | [y0, y1, y2], _ => exact ⟨y0, y1, y2, n, by simp, hl, by simpa using hf 0 f0 rfl, by simpa using hf 1 f1 rfl, by simpa using hf 2 f2 rfl⟩
theorem list_office {α : Type} {cs : List α} (h : cs.length = 3) : ∃ c0 c1 c2, cs = [c0, c1, c2] := by
  match cs, h with
  | [c0, c1, c2], _ => exact ⟨c0, c1, c2, rfl⟩
theorem view_office {H : Type} {enc : TypeId × Value → H} {W : World} {base fuel : Nat} {held : Bool} {cs : List Value} {x : DataW H × List MemPlace}
    (h : DataW.trod enc Tryz.prog W base (fun _ => true) held fuel 26 cs = some x) (hw : ∀ y ∈ DataW.weights Tryz.prog 26 x.1, y ≤ reachBytes) :
    ∃ s : Off, Off.Is W cs s ∧ Off.Short s 1000000000000000 := by
  obtain ⟨y0, y1, y2, n, hx, hl, h0, h1, h2⟩ := trod_struct_office Tryz.underlying26 h
  rw [hx] at hw
  rw [Tryz.cellsOffice] at hl
  obtain ⟨c0, c1, c2, rfl⟩ := list_office hl
  simp only [Tryz.cellsBookSOffice, Tryz.cellsLoadSOffice, Tryz.cellsSailSOffice, List.drop, List.take] at h0 h1 h2
  obtain ⟨asa, nsa, csa, lsa, e0, gsa, ssa, zsa, qsa⟩ := view_sails h0 (fun x hx => hw x (by simp [DataW.weights, DataW.weightsEach, Tryz.underlying26, hx]))
  obtain ⟨ald, nld, cld, lld, e1, gld, sld, zld, qld⟩ := view_loads h1 (fun x hx => hw x (by simp [DataW.weights, DataW.weightsEach, Tryz.underlying26, hx]))
  obtain ⟨abk, nbk, cbk, lbk, e2, gbk, sbk, zbk, qbk⟩ := view_bookings h2 (fun x hx => hw x (by simp [DataW.weights, DataW.weightsEach, Tryz.underlying26, hx]))
  subst e0 e1 e2
  exact ⟨⟨nsa, lsa, nld, lld, nbk, lbk⟩, ⟨asa, csa, ald, cld, abk, cbk, rfl, gsa, ssa, gld, sld, gbk, sbk⟩, ⟨⟨(show nsa ≤ _ from qsa), zsa⟩, ⟨(show nld ≤ _ from qld), zld⟩, ⟨(show nbk ≤ _ from qbk), zbk⟩⟩⟩
theorem open_office {H : Type} {enc : TypeId × Value → H} {W : World} {base : Nat} {v : Value} {d : DataW H} {p : List MemPlace} (hv : Value.okWide Tryz.prog W .any base 26 v)
    (h : DataW.Trod enc Tryz.prog W 0 (fun _ => true) true 26 v d p) (hw : ∀ x ∈ DataW.weights Tryz.prog 26 d, x ≤ reachBytes) :
    ∃ (cs : List Value) (s : Off), v = .agg cs.toArray ∧ Off.Is W cs s ∧ Off.Short s 1000000000000000 := by
  obtain ⟨cs, rfl, _⟩ := okWide_struct Tryz.underlying26 hv
  obtain ⟨fuel, hf⟩ := h
  obtain ⟨s, h1, h2⟩ := view_office hf hw
  exact ⟨cs.toList, s, by simp, by simpa [Value.cells] using h1, h2⟩
end Go.Proofs.YtlelckbeoclhbaaGreat

namespace Go.Proofs.YtlelckbeoclhbaaGreat
open Go.ChangeShapes Go.WideShapes Go.ChangeAt Go.RowKit Go.Deep Go.Joins
theorem viewOf_lifted (os : Os) (started : os.Started) (H : Type) (enc : TypeId × Value → H) :
    ReturnsInHanded {} Tryz.checked os 3 .any (Rows.fnExactViewOfSpec.pre6 enc Tryz.prog Tryz.f3 Rows.fnExactViewOfRow.domain false) (Rows.fnExactViewOfSpec.post enc Tryz.prog Tryz.f3 false true false false) := by
  refine returnsInHanded_of_change_sized (C := Tryz.checked) Tryz.own started (by kernel_rfl) Tryz.func3
    (ChangeSpec.witness6 (enc := enc) (C := Tryz.checked) false ⟨#[], #[.agg #[.slice none 0 0, .slice none 0 0, .slice none 0 0]], []⟩ 8 (by kernel_rfl) (by kernel_rfl) (by kernel_rfl) (by kernel_rfl)) ?_
  intro W base args ds gs before hval0 hW _ hsz0 _
  have hsz : (DataW.weightsEach Tryz.prog (Tryz.f3.params.toList ++ Rows.fnExactViewOfSpec.plain.varTypes Tryz.prog) (ds ++ gs)).all (· ≤ reachBytes) = true := hsz0
  clear hsz0
  have hval : ∀ (j : Nat) t v, Tryz.f3.params[j]? = some t → args[j]? = some v → Value.okWide Tryz.prog W .any base t v := hval0
  have hW' := hW
  obtain ⟨p, q, hA0, hV, rfl, hfz, hnd⟩ := hW
  have hA : DataW.TrodAll enc Tryz.prog W 0 (fun _ => true) true Tryz.f3.params.toList args.toList ds p := hA0
  rw [Tryz.params3] at hA hval hsz
  obtain ⟨v0, vs0, d0, ds0, p0, q0, hargs, rfl, rfl, h0, r0⟩ := trodAll_cons hA
  obtain ⟨rfl, rfl, rfl⟩ := trodAll_nil r0
  obtain rfl : args = #[v0] := by cases args; simp_all
  obtain ⟨rfl, rfl⟩ := trodVars_none hV
  have k0 := h0
  have lt0 : ∀ x ∈ p0, x.block < W.heap.size := by obtain ⟨m, hm⟩ := k0; exact DataW.trod_lt m _ _ _ hm
  have hw0 : ∀ x ∈ DataW.weights Tryz.prog 26 d0, x ≤ reachBytes := by
    intro x hx
    have := List.all_eq_true.1 hsz x (by simp [DataW.weightsEach, hx])
    simpa using this
  obtain ⟨cs0, y0, rfl, hi0, hs0⟩ := open_office (hval 0 26 v0 rfl rfl) h0 hw0
  clear hA0 hval0
  refine (lawViewOf cs0 y0 W hs0 hi0).mono fun e W' ⟨he, bel⟩ => ?_
  subst he
  exact ⟨_, rfl, _, _, _, [], _, [], hW', trodAll_mk1 (shut_bool Tryz.underlying4 _), (trodAll_cons_mk (Below.trod Tryz.laidOut (by kernel_rfl) (of_decide_eq_true (by kernel_rfl)) k0 bel lt0) trodAll_mk0), rfl, bel.frame _, fun h => by cases h⟩
theorem viewOf_holds : Rows.FnExactViewOfSaid :=
  OpenClaim.holds_of_wide 3 Tryz.f3 rfl rfl rfl rfl rfl rfl rfl ⟨rfl, rfl, rfl, rfl, rfl⟩ rfl rfl rfl rfl rfl (by kernel_rfl) Tryz.func3 (by kernel_rfl)
    (of_decide_eq_true (by kernel_rfl)) (by unfold Func.isWrapper; first | (rw [if_pos (by decide +kernel)]; kernel_rfl) | (rw [if_neg (by decide +kernel)]; exact ⟨rfl, rfl⟩))
    (fun os started H enc _ => viewOf_lifted os started H enc)
#print axioms viewOf_holds
end Go.Proofs.YtlelckbeoclhbaaGreat
