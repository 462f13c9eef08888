/-
  OWN TEXT: VLoad, ViewInts, ViewI.
-/
import Derived.Test.YtcioofnmhfehaaaGreatB29
import Derived.Test.YtcioofnmhfehaaaGreatB07
import Derived.Test.YtcioofnmhfehaaaGreatB27
namespace Go.Proofs.YtcioofnmhfehaaaGreat
open Go.ChangeShapes Go.WideShapes Go.ChangeAt Go.RowKit Go.Deep Go.Joins

theorem Tryz.cellsLoad : Tryz.prog.cellsOf 85 = 3 := by kernel_rfl
theorem Tryz.cellsRoomSLoad : Tryz.prog.cellsOf 82 = 1 := by kernel_rfl
theorem Tryz.cellsSeatSLoad : Tryz.prog.cellsOf 83 = 1 := by kernel_rfl
theorem Tryz.cellsStaySLoad : Tryz.prog.cellsOf 81 = 1 := by kernel_rfl
theorem Tryz.bytesLoad : Tryz.prog.bytesOf 85 = 72 := by kernel_rfl
theorem trod_struct_load {H : Type} {enc : TypeId × Value → H} {P : Program} {w : World} {base : Nat} {spare : Nat → Bool} {held : Bool} {t : TypeId} {f0 f1 f2 : Field} {fuel : Nat} {cs : List Value} {x : DataW H × List MemPlace} (ht : P.underlying t = some (.struct #[f0, f1, f2])) (h : DataW.trod enc P w base spare held fuel t cs = some x) :
    ∃ y0 y1 y2 n, x.1 = .agg [y0.1, y1.1, y2.1] ∧ cs.length = P.cellsOf t ∧ DataW.trod enc P w base spare held n f0.type ((cs.drop f0.offset).take (P.cellsOf f0.type)) = some y0 ∧ DataW.trod enc P w base spare held n f1.type ((cs.drop f1.offset).take (P.cellsOf f1.type)) = some y1 ∧ DataW.trod enc P w base spare held n f2.type ((cs.drop f2.offset).take (P.cellsOf f2.type)) = some y2 := by
  obtain ⟨xs, n, _, rfl, hl, hlen, hf⟩ := DataW.trod_struct ht h
  match xs, hlen with
  | [y0, y1, y2], _ => exact ⟨y0, y1, y2, n, by simp, hl, by simpa using hf 0 f0 rfl, by simpa using hf 1 f1 rfl, by simpa using hf 2 f2 rfl⟩
theorem list_load {α : Type} {cs : List α} (h : cs.length = 3) : ∃ c0 c1 c2, cs = [c0, c1, c2] := by
  match cs, h with
  | [c0, c1, c2], _ => exact ⟨c0, c1, c2, rfl⟩

set_option maxRecDepth 100000 in
set_option maxHeartbeats 1600000 in
/-- The cells of a sailing's load that came in. -/
theorem view_load {H : Type} {enc : TypeId × Value → H} {W : World} {base fuel : Nat} {held : Bool} {cs : List Value} {x : DataW H × List MemPlace}
    (h : DataW.trod enc Tryz.prog W base (fun _ => true) held fuel 85 cs = some x) (hw : ∀ y ∈ DataW.weights Tryz.prog 85 x.1, y ≤ reachBytes) :
    ∃ s : Load, Load.Is W cs s ∧ Load.Short s 1000000000000000 := by
  obtain ⟨y0, y1, y2, n, hx, hl, h0, h1, h2⟩ := trod_struct_load Tryz.underlying85 h
  rw [hx] at hw
  rw [Tryz.cellsLoad] at hl
  obtain ⟨c0, c1, c2, rfl⟩ := list_load hl
  simp only [Tryz.cellsRoomSLoad, Tryz.cellsSeatSLoad, Tryz.cellsStaySLoad, List.drop, List.take] at h0 h1 h2
  obtain ⟨ast, nst, cst, lst, e0, gst, sst, qst⟩ := view_stays h0 (fun x hx => hw x (by simp [DataW.weights, DataW.weightsEach, Tryz.underlying85, hx]))
  obtain ⟨aro, nro, cro, lro, e1, gro, sro, qro⟩ := view_rooms h1 (fun x hx => hw x (by simp [DataW.weights, DataW.weightsEach, Tryz.underlying85, hx]))
  obtain ⟨ase, nse, cse, lse, e2, gse, sse, qse⟩ := view_seats h2 (fun x hx => hw x (by simp [DataW.weights, DataW.weightsEach, Tryz.underlying85, hx]))
  subst e0 e1 e2
  exact ⟨⟨nst, lst, nro, lro, nse, lse⟩, ⟨ast, cst, aro, cro, ase, cse, rfl, gst, sst, gro, sro, gse, sse⟩, ⟨(show nst ≤ _ from qst), (show nro ≤ _ from qro), (show nse ≤ _ from qse)⟩⟩
instance : Inhabited Load := ⟨⟨0, fun _ => Stay.zero, 0, fun _ => Room.zero, 0, fun _ => Seat.zero⟩⟩

set_option maxRecDepth 100000 in
theorem view_loads {H : Type} {enc : TypeId × Value → H} {W : World} {base fuel : Nat} {held : Bool} {v : Value} {x : DataW H × List MemPlace}
    (h : DataW.trod enc Tryz.prog W base (fun _ => true) held fuel 23 [v] = some x) (hw : ∀ y ∈ DataW.weights Tryz.prog 23 x.1, y ≤ reachBytes) :
    ∃ ao n cap S, v = .slice ao n cap ∧ LoadsAt W ao n S ∧ SliceOk ao n cap ∧ LoadsShort n S 1000000000000000 ∧ n ≤ 1000000000000000 := by
  obtain ⟨ao, n, cap, C, rfl, hr, hl, hn, hb, hk⟩ := view_list Tryz.underlying23 Tryz.cellsLoad (by omega) Tryz.bytesLoad h hw
  have key : ∀ k, k < n → ∃ s : Load, Load.Is W (C k) s ∧ Load.Short s 1000000000000000 := by
    intro k hk'
    obtain ⟨_, fl, z, ht, hz⟩ := hk k hk'
    exact view_load ht hz
  obtain ⟨S, hS⟩ := choose_lt key
  exact ⟨ao, n, cap, S, rfl, ⟨C, hr, fun k hk' => (hS k hk').1⟩, ⟨hl, by unfold reachBytes at hb; omega, hn⟩, fun k hk' => (hS k hk').2, by unfold reachBytes at hb; omega⟩

set_option maxRecDepth 100000 in
/-- By value. -/
theorem open_load {H : Type} {enc : TypeId × Value → H} {W : World} {base : Nat} {v : Value} {d : DataW H} {p : List MemPlace} (hv : Value.okWide Tryz.prog W .any base 85 v)
    (h : DataW.Trod enc Tryz.prog W 0 (fun _ => true) true 85 v d p) (hw : ∀ x ∈ DataW.weights Tryz.prog 85 d, x ≤ reachBytes) :
    ∃ (cs : List Value) (s : Load), v = .agg cs.toArray ∧ Load.Is W cs s ∧ Load.Short s 1000000000000000 := by
  obtain ⟨cs, rfl, _⟩ := okWide_struct Tryz.underlying85 hv
  obtain ⟨fuel, hf⟩ := h
  obtain ⟨s, h1, h2⟩ := view_load hf hw
  exact ⟨cs.toList, s, by simp, by simpa [Value.cells] using h1, h2⟩

end Go.Proofs.YtcioofnmhfehaaaGreat

namespace Go.Proofs.YtcioofnmhfehaaaGreat
open Go.ChangeShapes Go.WideShapes Go.ChangeAt Go.RowKit Go.Deep Go.Joins

theorem Tryz.bytesInt : Tryz.prog.bytesOf 3 = 8 := by kernel_rfl
set_option maxRecDepth 100000 in
theorem open_ints_arg {H : Type} {enc : TypeId × Value → H} {W : World} {base : Nat} {v : Value} {d : DataW H} {p : List MemPlace} (hv : Value.okWide Tryz.prog W .any base 28 v)
    (h : DataW.Trod enc Tryz.prog W 0 (fun _ => true) true 28 v d p) (hw : ∀ x ∈ DataW.weights Tryz.prog 28 d, x ≤ reachBytes) :
    ∃ ao n c F, v = .slice ao n c ∧ n ≤ 1000000000000000 ∧ IntsAt W ao n F := by
  obtain ⟨fuel, hf⟩ := h
  rw [okWide_slice_is Tryz.underlying28 hv] at hf
  obtain ⟨ao, n, c, F, rfl, _, _, _, hi, hl⟩ := view_ints Tryz.underlying28 Tryz.underlying3 Tryz.cellsInt hf
  have r := len_reach Tryz.underlying28 Tryz.bytesInt hl hw
  unfold reachBytes at r
  exact ⟨ao, n, c, F, rfl, by omega, hi⟩

end Go.Proofs.YtcioofnmhfehaaaGreat

namespace Go.Proofs.YtcioofnmhfehaaaGreat
open Go.ChangeShapes Go.WideShapes Go.ChangeAt Go.RowKit Go.Deep Go.Joins

theorem view_ints' {H : Type} {enc : TypeId × Value → H} {W : World} {base fuel : Nat} {held : Bool} {v : Value} {x : DataW H × List MemPlace}
    (h : DataW.trod enc Tryz.prog W base (fun _ => true) held fuel 28 [v] = some x) (hw : ∀ y ∈ DataW.weights Tryz.prog 28 x.1, y ≤ reachBytes) :
    ∃ ao n cap S, v = .slice ao n cap ∧ IntsAt W ao n S ∧ SliceOk ao n cap ∧ n ≤ 1000000000000000 := by
  obtain ⟨ao, n, cap, C, rfl, hr, hl, hn, hb, hk⟩ := view_list Tryz.underlying28 Tryz.cellsInt (by omega) Tryz.bytesInt h hw
  have key : ∀ k, k < n → ∃ y : Int, C k = [.int .i64 y] := by
    intro k hk'
    obtain ⟨hlen, fl, z, ht, _⟩ := hk k hk'
    obtain ⟨i, e, _, _⟩ := DataW.trod_int Tryz.underlying3 ht
    exact ⟨i, e⟩
  obtain ⟨S, hS⟩ := choose_lt key
  refine ⟨ao, n, cap, S, rfl, fun k hk' => ?_, ⟨hl, by unfold reachBytes at hb; omega, hn⟩, by unfold reachBytes at hb; omega⟩
  obtain ⟨b, off, e, hc⟩ := hr k hk'
  have g := hc 0 (by omega)
  rw [hS k hk', Nat.mul_one] at g
  exact ⟨b, off, e, g⟩

end Go.Proofs.YtcioofnmhfehaaaGreat
