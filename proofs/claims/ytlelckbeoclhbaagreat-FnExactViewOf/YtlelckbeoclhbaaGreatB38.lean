/-
  OWN TEXT: ViewRoom, ViewSeat, ViewFlat, VLoad.
-/
import Derived.Test.YtlelckbeoclhbaaGreatB36
import Derived.Test.YtlelckbeoclhbaaGreatB09
import Derived.Test.YtlelckbeoclhbaaGreatB37
import Derived.Test.YtlelckbeoclhbaaGreatB32
import Derived.Test.YtlelckbeoclhbaaGreatB10
set_option maxHeartbeats 12800000
set_option maxRecDepth 100000
namespace Go.Proofs.YtlelckbeoclhbaaGreat
open Go.ChangeShapes Go.WideShapes Go.ChangeAt Go.RowKit Go.Deep Go.Joins
theorem Tryz.cellsRoom : Tryz.prog.cellsOf 199 = 4 := by kernel_rfl
theorem Tryz.bytesRoom : Tryz.prog.bytesOf 199 = 32 := by kernel_rfl
theorem trod_struct_room {H : Type} {enc : TypeId × Value → H} {P : Program} {w : World} {base : Nat} {spare : Nat → Bool} {held : Bool} {t : TypeId} {f0 f1 f2 f3 : Field} {fuel : Nat} {cs : List Value} {x : DataW H × List MemPlace} (ht : P.underlying t = some (.struct #[f0, f1, f2, f3])) (h : DataW.trod enc P w base spare held fuel t cs = some x) :
    ∃ y0 y1 y2 y3 n, DataW.trod enc P w base spare held n f0.type ((cs.drop f0.offset).take (P.cellsOf f0.type)) = some y0 ∧ DataW.trod enc P w base spare held n f1.type ((cs.drop f1.offset).take (P.cellsOf f1.type)) = some y1 ∧ DataW.trod enc P w base spare held n f2.type ((cs.drop f2.offset).take (P.cellsOf f2.type)) = some y2 ∧ DataW.trod enc P w base spare held n f3.type ((cs.drop f3.offset).take (P.cellsOf f3.type)) = some y3 := by
  obtain ⟨xs, n, _, rfl, hl, hlen, hf⟩ := DataW.trod_struct ht h
  match xs, hlen with
  | [y0, y1, y2, y3], _ => exact ⟨y0, y1, y2, y3, n, by simpa using hf 0 f0 rfl, by simpa using hf 1 f1 rfl, by simpa using hf 2 f2 rfl, by simpa using hf 3 f3 rfl⟩
theorem open_rooms {H : Type} {enc : TypeId × Value → H} {W : World} {base : Nat} {v : Value} {d : DataW H} {p : List MemPlace} (hv : Value.okWide Tryz.prog W .any base 98 v)
    (h : DataW.Trod enc Tryz.prog W 0 (fun _ => true) true 98 v d p) (hw : ∀ x ∈ DataW.weights Tryz.prog 98 d, x ≤ reachBytes) :
    ∃ ao n cap S, v = .slice ao n cap ∧ n ≤ 1000000000000000 ∧ RoomsAt W ao n S := by
  obtain ⟨fuel, hf⟩ := h
  rw [okWide_slice_is Tryz.underlying98 hv] at hf
  rcases open_slice Tryz.underlying98 hf with ⟨hcs, hx⟩ | ⟨a, n, cap, q, fl, D, Pl, hcs, _, hl, hm, hmm, hx, hcell⟩
  · simp at hcs
    subst hcs
    exact ⟨none, 0, 0, fun _ => Room.zero, rfl, by omega, fun i hi => by omega⟩
  · simp at hcs
    subst hcs
    rw [if_pos rfl] at hmm
    subst hmm
    simp only [Prod.mk.injEq] at hx
    obtain ⟨rfl, rfl⟩ := hx
    have hcap : q * 32 ≤ reachBytes := by
      have := hw ((n + (q - n)) * Tryz.prog.bytesOf 199) (by simp [DataW.weights, Tryz.underlying98])
      rw [Tryz.bytesRoom, show n + (q - n) = q by omega] at this
      exact this
    unfold reachBytes at hcap
    by_cases hn0 : n = 0
    · subst hn0
      exact ⟨some a, 0, q, fun _ => Room.zero, rfl, by omega, fun i hi => by omega⟩
    have hspot : a.spot = none := by
      obtain ⟨cs, hcl, _⟩ := hcell 0 (by omega)
      rw [Tryz.cellsRoom] at hcl
      obtain ⟨_, hlen, hget⟩ := World.cells?_some hcl
      have g0 := hget 0 (by omega)
      rw [List.getElem?_eq_getElem (by omega)] at g0
      have := World.cell?_spot g0
      simpa [Addr.add] using this
    obtain ⟨b, off, spot⟩ := a
    simp only at hspot
    subst hspot
    have key : ∀ k, k < n → ∃ (y : Room), W.cell? ⟨b, off + k * 4, none⟩ = some (.int .i64 y.who) ∧ W.cell? ⟨b, off + k * 4 + 1, none⟩ = some (.int .i64 y.cab) ∧ W.cell? ⟨b, off + k * 4 + 2, none⟩ = some (.int .i64 y.many) ∧ W.cell? ⟨b, off + k * 4 + 3, none⟩ = some (.bool y.all) := by
      intro k hk
      obtain ⟨cs, hcl, htr⟩ := hcell k (by omega)
      rw [Tryz.cellsRoom] at hcl
      obtain ⟨_, hlen, hget⟩ := World.cells?_some hcl
      obtain ⟨y0, y1, y2, y3, n', h0, h1, h2, h3⟩ := trod_struct_room Tryz.underlying199 htr
      simp only [Tryz.cellsInt, Tryz.cellsBool] at h0 h1 h2 h3
      match cs, hlen with
      | [p0, p1, p2, p3], _ =>
        obtain ⟨i0, e0, _, _⟩ := DataW.trod_int Tryz.underlying3 h0
        obtain ⟨i1, e1, _, _⟩ := DataW.trod_int Tryz.underlying3 h1
        obtain ⟨i2, e2, _, _⟩ := DataW.trod_int Tryz.underlying3 h2
        obtain ⟨i3, e3, _⟩ := DataW.trod_bool Tryz.underlying4 h3
        simp at e0 e1 e2 e3
        subst e0 e1 e2 e3
        have g0 := hget 0 (by omega)
        have g1 := hget 1 (by omega)
        have g2 := hget 2 (by omega)
        have g3 := hget 3 (by omega)
        simp only [List.getElem?_cons_zero, List.getElem?_cons_succ, Addr.add_lit, Nat.add_zero] at g0 g1 g2 g3
        exact ⟨⟨i0, i1, i2, i3⟩, g0, g1, g2, g3⟩
    obtain ⟨f, hf⟩ := choose_lt key
    exact ⟨some ⟨b, off, none⟩, n, q, f, rfl, by omega, fun k hk => ⟨b, off, rfl, hf k hk⟩⟩
end Go.Proofs.YtlelckbeoclhbaaGreat

namespace Go.Proofs.YtlelckbeoclhbaaGreat
open Go.ChangeShapes Go.WideShapes Go.ChangeAt Go.RowKit Go.Deep Go.Joins
theorem Tryz.cellsSeat : Tryz.prog.cellsOf 201 = 2 := by kernel_rfl
theorem Tryz.bytesSeat : Tryz.prog.bytesOf 201 = 16 := by kernel_rfl
theorem trod_struct_seat {H : Type} {enc : TypeId × Value → H} {P : Program} {w : World} {base : Nat} {spare : Nat → Bool} {held : Bool} {t : TypeId} {f0 f1 : Field} {fuel : Nat} {cs : List Value} {x : DataW H × List MemPlace} (ht : P.underlying t = some (.struct #[f0, f1])) (h : DataW.trod enc P w base spare held fuel t cs = some x) :
    ∃ y0 y1 n, DataW.trod enc P w base spare held n f0.type ((cs.drop f0.offset).take (P.cellsOf f0.type)) = some y0 ∧ DataW.trod enc P w base spare held n f1.type ((cs.drop f1.offset).take (P.cellsOf f1.type)) = some y1 := by
  obtain ⟨xs, n, _, rfl, hl, hlen, hf⟩ := DataW.trod_struct ht h
  match xs, hlen with
  | [y0, y1], _ => exact ⟨y0, y1, n, by simpa using hf 0 f0 rfl, by simpa using hf 1 f1 rfl⟩
theorem open_seats {H : Type} {enc : TypeId × Value → H} {W : World} {base : Nat} {v : Value} {d : DataW H} {p : List MemPlace} (hv : Value.okWide Tryz.prog W .any base 99 v)
    (h : DataW.Trod enc Tryz.prog W 0 (fun _ => true) true 99 v d p) (hw : ∀ x ∈ DataW.weights Tryz.prog 99 d, x ≤ reachBytes) :
    ∃ ao n cap S, v = .slice ao n cap ∧ n ≤ 1000000000000000 ∧ SeatsAt W ao n S := by
  obtain ⟨fuel, hf⟩ := h
  rw [okWide_slice_is Tryz.underlying99 hv] at hf
  rcases open_slice Tryz.underlying99 hf with ⟨hcs, hx⟩ | ⟨a, n, cap, q, fl, D, Pl, hcs, _, hl, hm, hmm, hx, hcell⟩
  · simp at hcs
    subst hcs
    exact ⟨none, 0, 0, fun _ => Seat.zero, rfl, by omega, fun i hi => by omega⟩
  · simp at hcs
    subst hcs
    rw [if_pos rfl] at hmm
    subst hmm
    simp only [Prod.mk.injEq] at hx
    obtain ⟨rfl, rfl⟩ := hx
    have hcap : q * 16 ≤ reachBytes := by
      have := hw ((n + (q - n)) * Tryz.prog.bytesOf 201) (by simp [DataW.weights, Tryz.underlying99])
      rw [Tryz.bytesSeat, show n + (q - n) = q by omega] at this
      exact this
    unfold reachBytes at hcap
    by_cases hn0 : n = 0
    · subst hn0
      exact ⟨some a, 0, q, fun _ => Seat.zero, rfl, by omega, fun i hi => by omega⟩
    have hspot : a.spot = none := by
      obtain ⟨cs, hcl, _⟩ := hcell 0 (by omega)
      rw [Tryz.cellsSeat] at hcl
      obtain ⟨_, hlen, hget⟩ := World.cells?_some hcl
      have g0 := hget 0 (by omega)
      rw [List.getElem?_eq_getElem (by omega)] at g0
      have := World.cell?_spot g0
      simpa [Addr.add] using this
    obtain ⟨b, off, spot⟩ := a
    simp only at hspot
    subst hspot
    have key : ∀ k, k < n → ∃ (y : Seat), W.cell? ⟨b, off + k * 2, none⟩ = some (.int .i64 y.who) ∧ W.cell? ⟨b, off + k * 2 + 1, none⟩ = some (.int .i64 y.many) := by
      intro k hk
      obtain ⟨cs, hcl, htr⟩ := hcell k (by omega)
      rw [Tryz.cellsSeat] at hcl
      obtain ⟨_, hlen, hget⟩ := World.cells?_some hcl
      obtain ⟨y0, y1, n', h0, h1⟩ := trod_struct_seat Tryz.underlying201 htr
      simp only [Tryz.cellsInt] at h0 h1
      match cs, hlen with
      | [p0, p1], _ =>
        obtain ⟨i0, e0, _, _⟩ := DataW.trod_int Tryz.underlying3 h0
        obtain ⟨i1, e1, _, _⟩ := DataW.trod_int Tryz.underlying3 h1
        simp at e0 e1
        subst e0 e1
        have g0 := hget 0 (by omega)
        have g1 := hget 1 (by omega)
        simp only [List.getElem?_cons_zero, List.getElem?_cons_succ, Addr.add_lit, Nat.add_zero] at g0 g1
        exact ⟨⟨i0, i1⟩, g0, g1⟩
    obtain ⟨f, hf⟩ := choose_lt key
    exact ⟨some ⟨b, off, none⟩, n, q, f, rfl, by omega, fun k hk => ⟨b, off, rfl, hf k hk⟩⟩
end Go.Proofs.YtlelckbeoclhbaaGreat

namespace Go.Proofs.YtlelckbeoclhbaaGreat
open Go.ChangeShapes Go.WideShapes Go.ChangeAt Go.RowKit Go.Deep Go.Joins
theorem view_stays {H : Type} {enc : TypeId × Value → H} {W : World} {base fuel : Nat} {held : Bool} {v : Value} {x : DataW H × List MemPlace}
    (h : DataW.trod enc Tryz.prog W base (fun _ => true) held fuel 97 [v] = some x) (hw : ∀ y ∈ DataW.weights Tryz.prog 97 x.1, y ≤ reachBytes) :
    ∃ ao n cap S, v = .slice ao n cap ∧ StaysAt W ao n S ∧ SliceOk ao n cap ∧ n ≤ 1000000000000000 := by
  obtain ⟨ao, n, cap, C, rfl, hr, hl, hn, hb, hk⟩ := view_list Tryz.underlying97 Tryz.cellsStay (by omega) Tryz.bytesStay h hw
  have key : ∀ k, k < n → ∃ y : Stay, C k = [.int .i64 y.who, .int .i64 y.ln, .int .i64 y.len, .int .i64 y.hei] := by
    intro k hk'
    obtain ⟨hlen, fl, z, ht, _⟩ := hk k hk'
    obtain ⟨y0, y1, y2, y3, m, h0, h1, h2, h3⟩ := trod_struct_stay Tryz.underlying197 ht
    simp only [Tryz.cellsInt] at h0 h1 h2 h3
    generalize C k = l at *
    match l, hlen with
    | [p0, p1, p2, p3], _ =>
      obtain ⟨i0, e0, _, _⟩ := DataW.trod_int Tryz.underlying3 h0
      obtain ⟨i1, e1, _, _⟩ := DataW.trod_int Tryz.underlying3 h1
      obtain ⟨i2, e2, _, _⟩ := DataW.trod_int Tryz.underlying3 h2
      obtain ⟨i3, e3, _, _⟩ := DataW.trod_int Tryz.underlying3 h3
      simp at e0 e1 e2 e3
      subst e0 e1 e2 e3
      exact ⟨⟨i0, i1, i2, i3⟩, rfl⟩
  obtain ⟨S, hS⟩ := choose_lt key
  refine ⟨ao, n, cap, S, rfl, fun k hk' => ?_, ⟨hl, by unfold reachBytes at hb; omega, hn⟩, by unfold reachBytes at hb; omega⟩
  obtain ⟨b, off, e, hc⟩ := hr k hk'
  rw [hS k hk'] at hc
  exact ⟨b, off, e, hc 0 (by omega), hc 1 (by omega), hc 2 (by omega), hc 3 (by omega)⟩
theorem view_rooms {H : Type} {enc : TypeId × Value → H} {W : World} {base fuel : Nat} {held : Bool} {v : Value} {x : DataW H × List MemPlace}
    (h : DataW.trod enc Tryz.prog W base (fun _ => true) held fuel 98 [v] = some x) (hw : ∀ y ∈ DataW.weights Tryz.prog 98 x.1, y ≤ reachBytes) :
    ∃ ao n cap S, v = .slice ao n cap ∧ RoomsAt W ao n S ∧ SliceOk ao n cap ∧ n ≤ 1000000000000000 := by
  obtain ⟨ao, n, cap, C, rfl, hr, hl, hn, hb, hk⟩ := view_list Tryz.underlying98 Tryz.cellsRoom (by omega) Tryz.bytesRoom h hw
  have key : ∀ k, k < n → ∃ y : Room, C k = [.int .i64 y.who, .int .i64 y.cab, .int .i64 y.many, .bool y.all] := by
    intro k hk'
    obtain ⟨hlen, fl, z, ht, _⟩ := hk k hk'
    obtain ⟨y0, y1, y2, y3, m, h0, h1, h2, h3⟩ := trod_struct_room Tryz.underlying199 ht
    simp only [Tryz.cellsInt, Tryz.cellsBool] at h0 h1 h2 h3
    generalize C k = l at *
    match l, hlen with
    | [p0, p1, p2, p3], _ =>
      obtain ⟨i0, e0, _, _⟩ := DataW.trod_int Tryz.underlying3 h0
      obtain ⟨i1, e1, _, _⟩ := DataW.trod_int Tryz.underlying3 h1
      obtain ⟨i2, e2, _, _⟩ := DataW.trod_int Tryz.underlying3 h2
      obtain ⟨i3, e3, _⟩ := DataW.trod_bool Tryz.underlying4 h3
      simp at e0 e1 e2 e3
      subst e0 e1 e2 e3
      exact ⟨⟨i0, i1, i2, i3⟩, rfl⟩
  obtain ⟨S, hS⟩ := choose_lt key
  refine ⟨ao, n, cap, S, rfl, fun k hk' => ?_, ⟨hl, by unfold reachBytes at hb; omega, hn⟩, by unfold reachBytes at hb; omega⟩
  obtain ⟨b, off, e, hc⟩ := hr k hk'
  rw [hS k hk'] at hc
  exact ⟨b, off, e, hc 0 (by omega), hc 1 (by omega), hc 2 (by omega), hc 3 (by omega)⟩
theorem view_seats {H : Type} {enc : TypeId × Value → H} {W : World} {base fuel : Nat} {held : Bool} {v : Value} {x : DataW H × List MemPlace}
    (h : DataW.trod enc Tryz.prog W base (fun _ => true) held fuel 99 [v] = some x) (hw : ∀ y ∈ DataW.weights Tryz.prog 99 x.1, y ≤ reachBytes) :
    ∃ ao n cap S, v = .slice ao n cap ∧ SeatsAt W ao n S ∧ SliceOk ao n cap ∧ n ≤ 1000000000000000 := by
  obtain ⟨ao, n, cap, C, rfl, hr, hl, hn, hb, hk⟩ := view_list Tryz.underlying99 Tryz.cellsSeat (by omega) Tryz.bytesSeat h hw
  have key : ∀ k, k < n → ∃ y : Seat, C k = [.int .i64 y.who, .int .i64 y.many] := by
    intro k hk'
    obtain ⟨hlen, fl, z, ht, _⟩ := hk k hk'
    obtain ⟨y0, y1, m, h0, h1⟩ := trod_struct_seat Tryz.underlying201 ht
    simp only [Tryz.cellsInt] at h0 h1
    generalize C k = l at *
    match l, hlen with
    | [p0, p1], _ =>
      obtain ⟨i0, e0, _, _⟩ := DataW.trod_int Tryz.underlying3 h0
      obtain ⟨i1, e1, _, _⟩ := DataW.trod_int Tryz.underlying3 h1
      simp at e0 e1
      subst e0 e1
      exact ⟨⟨i0, i1⟩, rfl⟩
  obtain ⟨S, hS⟩ := choose_lt key
  refine ⟨ao, n, cap, S, rfl, fun k hk' => ?_, ⟨hl, by unfold reachBytes at hb; omega, hn⟩, by unfold reachBytes at hb; omega⟩
  obtain ⟨b, off, e, hc⟩ := hr k hk'
  rw [hS k hk'] at hc
  exact ⟨b, off, e, hc 0 (by omega), hc 1 (by omega)⟩
end Go.Proofs.YtlelckbeoclhbaaGreat

namespace Go.Proofs.YtlelckbeoclhbaaGreat
open Go.ChangeShapes Go.WideShapes Go.ChangeAt Go.RowKit Go.Deep Go.Joins
theorem Tryz.cellsLoad : Tryz.prog.cellsOf 101 = 3 := by kernel_rfl
theorem Tryz.cellsRoomSLoad : Tryz.prog.cellsOf 98 = 1 := by kernel_rfl
theorem Tryz.cellsSeatSLoad : Tryz.prog.cellsOf 99 = 1 := by kernel_rfl
theorem Tryz.cellsStaySLoad : Tryz.prog.cellsOf 97 = 1 := by kernel_rfl
theorem Tryz.bytesLoad : Tryz.prog.bytesOf 101 = 72 := by kernel_rfl
theorem trod_struct_load {H : Type} {enc : TypeId × Value → H} {P : Program} {w : World} {base : Nat} {spare : Nat → Bool} {held : Bool} {t : TypeId} {f0 f1 f2 : Field} {fuel : Nat} {cs : List Value} {x : DataW H × List MemPlace} (ht : P.underlying t = some (.struct #[f0, f1, f2])) (h : DataW.trod enc P w base spare held fuel t cs = some x) :
    ∃ y0 y1 y2 n, x.1 = .agg [y0.1, y1.1, y2.1] ∧ cs.length = P.cellsOf t ∧ DataW.trod enc P w base spare held n f0.type ((cs.drop f0.offset).take (P.cellsOf f0.type)) = some y0 ∧ DataW.trod enc P w base spare held n f1.type ((cs.drop f1.offset).take (P.cellsOf f1.type)) = some y1 ∧ DataW.trod enc P w base spare held n f2.type ((cs.drop f2.offset).take (P.cellsOf f2.type)) = some y2 := by
  obtain ⟨xs, n, _, rfl, hl, hlen, hf⟩ := DataW.trod_struct ht h
  match xs, hlen with
  | [y0, y1, y2], _ => exact ⟨y0, y1, y2, n, by simp, hl, by simpa using hf 0 f0 rfl, by simpa using hf 1 f1 rfl, by simpa using hf 2 f2 rfl⟩
theorem list_load {α : Type} {cs : List α} (h : cs.length = 3) : ∃ c0 c1 c2, cs = [c0, c1, c2] := by
  match cs, h with
  | [c0, c1, c2], _ => exact ⟨c0, c1, c2, rfl⟩
theorem view_load {H : Type} {enc : TypeId × Value → H} {W : World} {base fuel : Nat} {held : Bool} {cs : List Value} {x : DataW H × List MemPlace}
    (h : DataW.trod enc Tryz.prog W base (fun _ => true) held fuel 101 cs = some x) (hw : ∀ y ∈ DataW.weights Tryz.prog 101 x.1, y ≤ reachBytes) :
    ∃ s : Load, Load.Is W cs s ∧ Load.Short s 1000000000000000 := by
  obtain ⟨y0, y1, y2, n, hx, hl, h0, h1, h2⟩ := trod_struct_load Tryz.underlying101 h
  rw [hx] at hw
  rw [Tryz.cellsLoad] at hl
  obtain ⟨c0, c1, c2, rfl⟩ := list_load hl
  simp only [Tryz.cellsRoomSLoad, Tryz.cellsSeatSLoad, Tryz.cellsStaySLoad, List.drop, List.take] at h0 h1 h2
  obtain ⟨ast, nst, cst, lst, e0, gst, sst, qst⟩ := view_stays h0 (fun x hx => hw x (by simp [DataW.weights, DataW.weightsEach, Tryz.underlying101, hx]))
  obtain ⟨aro, nro, cro, lro, e1, gro, sro, qro⟩ := view_rooms h1 (fun x hx => hw x (by simp [DataW.weights, DataW.weightsEach, Tryz.underlying101, hx]))
  obtain ⟨ase, nse, cse, lse, e2, gse, sse, qse⟩ := view_seats h2 (fun x hx => hw x (by simp [DataW.weights, DataW.weightsEach, Tryz.underlying101, hx]))
  subst e0 e1 e2
  exact ⟨⟨nst, lst, nro, lro, nse, lse⟩, ⟨ast, cst, aro, cro, ase, cse, rfl, gst, sst, gro, sro, gse, sse⟩, ⟨(show nst ≤ _ from qst), (show nro ≤ _ from qro), (show nse ≤ _ from qse)⟩⟩
instance : Inhabited Load := ⟨⟨0, fun _ => Stay.zero, 0, fun _ => Room.zero, 0, fun _ => Seat.zero⟩⟩
theorem view_loads {H : Type} {enc : TypeId × Value → H} {W : World} {base fuel : Nat} {held : Bool} {v : Value} {x : DataW H × List MemPlace}
    (h : DataW.trod enc Tryz.prog W base (fun _ => true) held fuel 23 [v] = some x) (hw : ∀ y ∈ DataW.weights Tryz.prog 23 x.1, y ≤ reachBytes) :
    ∃ ao n cap S, v = .slice ao n cap ∧ LoadsAt W ao n S ∧ SliceOk ao n cap ∧ LoadsShort n S 1000000000000000 ∧ n ≤ 1000000000000000 := by
  obtain ⟨ao, n, cap, C, rfl, hr, hl, hn, hb, hk⟩ := view_list Tryz.underlying23 Tryz.cellsLoad (by omega) Tryz.bytesLoad h hw
  have key : ∀ k, k < n → ∃ s : Load, Load.Is W (C k) s ∧ Load.Short s 1000000000000000 := by
    intro k hk'
    obtain ⟨_, fl, z, ht, hz⟩ := hk k hk'
    exact view_load ht hz
  obtain ⟨S, hS⟩ := choose_lt key
  exact ⟨ao, n, cap, S, rfl, ⟨C, hr, fun k hk' => (hS k hk').1⟩, ⟨hl, by unfold reachBytes at hb; omega, hn⟩, fun k hk' => (hS k hk').2, by unfold reachBytes at hb; omega⟩
theorem open_load {H : Type} {enc : TypeId × Value → H} {W : World} {base : Nat} {v : Value} {d : DataW H} {p : List MemPlace} (hv : Value.okWide Tryz.prog W .any base 101 v)
    (h : DataW.Trod enc Tryz.prog W 0 (fun _ => true) true 101 v d p) (hw : ∀ x ∈ DataW.weights Tryz.prog 101 d, x ≤ reachBytes) :
    ∃ (cs : List Value) (s : Load), v = .agg cs.toArray ∧ Load.Is W cs s ∧ Load.Short s 1000000000000000 := by
  obtain ⟨cs, rfl, _⟩ := okWide_struct Tryz.underlying101 hv
  obtain ⟨fuel, hf⟩ := h
  obtain ⟨s, h1, h2⟩ := view_load hf hw
  exact ⟨cs.toList, s, by simp, by simpa [Value.cells] using h1, h2⟩
end Go.Proofs.YtlelckbeoclhbaaGreat
