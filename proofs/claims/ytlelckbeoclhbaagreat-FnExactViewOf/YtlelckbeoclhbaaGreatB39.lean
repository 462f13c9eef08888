/-
  OWN TEXT: ViewInts, ViewI, ViewParty, VBooking.
-/
import Derived.Test.YtlelckbeoclhbaaGreatB36
import Derived.Test.YtlelckbeoclhbaaGreatB07
import Derived.Test.YtlelckbeoclhbaaGreatB06
import Derived.Test.YtlelckbeoclhbaaGreatB01
set_option maxHeartbeats 12800000
set_option maxRecDepth 100000
namespace Go.Proofs.YtlelckbeoclhbaaGreat
open Go.ChangeShapes Go.WideShapes Go.ChangeAt Go.RowKit Go.Deep Go.Joins
theorem Tryz.bytesInt : Tryz.prog.bytesOf 3 = 8 := by kernel_rfl
theorem open_ints_arg {H : Type} {enc : TypeId × Value → H} {W : World} {base : Nat} {v : Value} {d : DataW H} {p : List MemPlace} (hv : Value.okWide Tryz.prog W .any base 31 v)
    (h : DataW.Trod enc Tryz.prog W 0 (fun _ => true) true 31 v d p) (hw : ∀ x ∈ DataW.weights Tryz.prog 31 d, x ≤ reachBytes) :
    ∃ ao n c F, v = .slice ao n c ∧ n ≤ 1000000000000000 ∧ IntsAt W ao n F := by
  obtain ⟨fuel, hf⟩ := h
  rw [okWide_slice_is Tryz.underlying31 hv] at hf
  obtain ⟨ao, n, c, F, rfl, _, _, _, hi, hl⟩ := view_ints Tryz.underlying31 Tryz.underlying3 Tryz.cellsInt hf
  have r := len_reach Tryz.underlying31 Tryz.bytesInt hl hw
  unfold reachBytes at r
  exact ⟨ao, n, c, F, rfl, by omega, hi⟩
end Go.Proofs.YtlelckbeoclhbaaGreat

namespace Go.Proofs.YtlelckbeoclhbaaGreat
open Go.ChangeShapes Go.WideShapes Go.ChangeAt Go.RowKit Go.Deep Go.Joins
theorem view_ints' {H : Type} {enc : TypeId × Value → H} {W : World} {base fuel : Nat} {held : Bool} {v : Value} {x : DataW H × List MemPlace}
    (h : DataW.trod enc Tryz.prog W base (fun _ => true) held fuel 31 [v] = some x) (hw : ∀ y ∈ DataW.weights Tryz.prog 31 x.1, y ≤ reachBytes) :
    ∃ ao n cap S, v = .slice ao n cap ∧ IntsAt W ao n S ∧ SliceOk ao n cap ∧ n ≤ 1000000000000000 := by
  obtain ⟨ao, n, cap, C, rfl, hr, hl, hn, hb, hk⟩ := view_list Tryz.underlying31 Tryz.cellsInt (by omega) Tryz.bytesInt h hw
  have key : ∀ k, k < n → ∃ y : Int, C k = [.int .i64 y] := by
    intro k hk'
    obtain ⟨hlen, fl, z, ht, _⟩ := hk k hk'
    obtain ⟨i, e, _, _⟩ := DataW.trod_int Tryz.underlying3 ht
    exact ⟨i, e⟩
  obtain ⟨S, hS⟩ := choose_lt key
  refine ⟨ao, n, cap, S, rfl, fun k hk' => ?_, ⟨hl, by unfold reachBytes at hb; omega, hn⟩, by unfold reachBytes at hb; omega⟩
  obtain ⟨b, off, e, hc⟩ := hr k hk'
  have g := hc 0 (by omega)
  rw [hS k hk', Nat.mul_one] at g
  exact ⟨b, off, e, g⟩
end Go.Proofs.YtlelckbeoclhbaaGreat

namespace Go.Proofs.YtlelckbeoclhbaaGreat
open Go.ChangeShapes Go.WideShapes Go.ChangeAt Go.RowKit Go.Deep Go.Joins
theorem Tryz.cellsParty : Tryz.prog.cellsOf 103 = 6 := by kernel_rfl
theorem trod_struct6 {H : Type} {enc : TypeId × Value → H} {P : Program} {w : World} {base : Nat} {spare : Nat → Bool} {held : Bool} {t : TypeId} {f0 f1 f2 f3 f4 f5 : Field} {fuel : Nat} {cs : List Value} {x : DataW H × List MemPlace} (ht : P.underlying t = some (.struct #[f0, f1, f2, f3, f4, f5])) (h : DataW.trod enc P w base spare held fuel t cs = some x) :
    ∃ y0 y1 y2 y3 y4 y5 n, cs.length = P.cellsOf t ∧ DataW.trod enc P w base spare held n f0.type ((cs.drop f0.offset).take (P.cellsOf f0.type)) = some y0 ∧ DataW.trod enc P w base spare held n f1.type ((cs.drop f1.offset).take (P.cellsOf f1.type)) = some y1 ∧ DataW.trod enc P w base spare held n f2.type ((cs.drop f2.offset).take (P.cellsOf f2.type)) = some y2 ∧ DataW.trod enc P w base spare held n f3.type ((cs.drop f3.offset).take (P.cellsOf f3.type)) = some y3 ∧ DataW.trod enc P w base spare held n f4.type ((cs.drop f4.offset).take (P.cellsOf f4.type)) = some y4 ∧ DataW.trod enc P w base spare held n f5.type ((cs.drop f5.offset).take (P.cellsOf f5.type)) = some y5 := by
  obtain ⟨xs, n, _, rfl, hl, hlen, hf⟩ := DataW.trod_struct ht h
  match xs, hlen with
  | [y0, y1, y2, y3, y4, y5], _ => exact ⟨y0, y1, y2, y3, y4, y5, n, hl, by simpa using hf 0 f0 rfl, by simpa using hf 1 f1 rfl, by simpa using hf 2 f2 rfl, by simpa using hf 3 f3 rfl, by simpa using hf 4 f4 rfl, by simpa using hf 5 f5 rfl⟩
theorem open_party {H : Type} {enc : TypeId × Value → H} {W : World} {base : Nat} {v : Value} {d : DataW H} {p : List MemPlace} (hv : Value.okWide Tryz.prog W .any base 103 v)
    (h : DataW.Trod enc Tryz.prog W 0 (fun _ => true) true 103 v d p) : ∃ (pe len hei cl : Int) (all : Bool) (be : Int), v = .agg #[.int .i64 pe, .int .i64 len, .int .i64 hei, .int .i64 cl, .bool all, .int .i64 be] := by
  obtain ⟨cs, rfl, hsz⟩ := okWide_struct Tryz.underlying103 hv
  obtain ⟨fuel, hf⟩ := h
  obtain ⟨y0, y1, y2, y3, y4, y5, n, hl, h0, h1, h2, h3, h4, h5⟩ := trod_struct6 Tryz.underlying103 hf
  simp only [Tryz.cellsInt, Tryz.cellsBool] at h0 h1 h2 h3 h4 h5
  rw [Tryz.cellsParty] at hl
  have hl' : cs.toList.length = 6 := by simpa [Value.cells] using hl
  obtain ⟨l⟩ := cs
  match l, hl' with
  | [p0, p1, p2, p3, p4, p5], _ =>
    simp only [Value.cells] at h0 h1 h2 h3 h4 h5
    obtain ⟨i0, e0, _, _⟩ := DataW.trod_int Tryz.underlying3 h0
    obtain ⟨i1, e1, _, _⟩ := DataW.trod_int Tryz.underlying3 h1
    obtain ⟨i2, e2, _, _⟩ := DataW.trod_int Tryz.underlying3 h2
    obtain ⟨i3, e3, _, _⟩ := DataW.trod_int Tryz.underlying3 h3
    obtain ⟨i4, e4, _⟩ := DataW.trod_bool Tryz.underlying4 h4
    obtain ⟨i5, e5, _, _⟩ := DataW.trod_int Tryz.underlying3 h5
    simp at e0 e1 e2 e3 e4 e5
    subst e0 e1 e2 e3 e4 e5
    exact ⟨i0, i1, i2, i3, i4, i5, rfl⟩
end Go.Proofs.YtlelckbeoclhbaaGreat

namespace Go.Proofs.YtlelckbeoclhbaaGreat
open Go.ChangeShapes Go.WideShapes Go.ChangeAt Go.RowKit Go.Deep Go.Joins
theorem Tryz.cellsBooking : Tryz.prog.cellsOf 105 = 13 := by kernel_rfl
theorem Tryz.cellsIntSBooking : Tryz.prog.cellsOf 31 = 1 := by kernel_rfl
theorem Tryz.bytesBooking : Tryz.prog.bytesOf 105 = 128 := by kernel_rfl
theorem Tryz.cellsStrBooking : Tryz.prog.cellsOf 9 = 1 := by kernel_rfl
theorem trod_struct_booking {H : Type} {enc : TypeId × Value → H} {P : Program} {w : World} {base : Nat} {spare : Nat → Bool} {held : Bool} {t : TypeId} {f0 f1 f2 f3 f4 f5 f6 f7 : Field} {fuel : Nat} {cs : List Value} {x : DataW H × List MemPlace} (ht : P.underlying t = some (.struct #[f0, f1, f2, f3, f4, f5, f6, f7])) (h : DataW.trod enc P w base spare held fuel t cs = some x) :
    ∃ y0 y1 y2 y3 y4 y5 y6 y7 n, x.1 = .agg [y0.1, y1.1, y2.1, y3.1, y4.1, y5.1, y6.1, y7.1] ∧ cs.length = P.cellsOf t ∧ DataW.trod enc P w base spare held n f0.type ((cs.drop f0.offset).take (P.cellsOf f0.type)) = some y0 ∧ DataW.trod enc P w base spare held n f1.type ((cs.drop f1.offset).take (P.cellsOf f1.type)) = some y1 ∧ DataW.trod enc P w base spare held n f2.type ((cs.drop f2.offset).take (P.cellsOf f2.type)) = some y2 ∧ DataW.trod enc P w base spare held n f3.type ((cs.drop f3.offset).take (P.cellsOf f3.type)) = some y3 ∧ DataW.trod enc P w base spare held n f4.type ((cs.drop f4.offset).take (P.cellsOf f4.type)) = some y4 ∧ DataW.trod enc P w base spare held n f5.type ((cs.drop f5.offset).take (P.cellsOf f5.type)) = some y5 ∧ DataW.trod enc P w base spare held n f6.type ((cs.drop f6.offset).take (P.cellsOf f6.type)) = some y6 ∧ DataW.trod enc P w base spare held n f7.type ((cs.drop f7.offset).take (P.cellsOf f7.type)) = some y7 := by
  obtain ⟨xs, n, _, rfl, hl, hlen, hf⟩ := DataW.trod_struct ht h
  match xs, hlen with
  | [y0, y1, y2, y3, y4, y5, y6, y7], _ => exact ⟨y0, y1, y2, y3, y4, y5, y6, y7, n, by simp, hl, by simpa using hf 0 f0 rfl, by simpa using hf 1 f1 rfl, by simpa using hf 2 f2 rfl, by simpa using hf 3 f3 rfl, by simpa using hf 4 f4 rfl, by simpa using hf 5 f5 rfl, by simpa using hf 6 f6 rfl, by simpa using hf 7 f7 rfl⟩
theorem list_booking {α : Type} {cs : List α} (h : cs.length = 13) : ∃ c0 c1 c2 c3 c4 c5 c6 c7 c8 c9 c10 c11 c12, cs = [c0, c1, c2, c3, c4, c5, c6, c7, c8, c9, c10, c11, c12] := by
  match cs, h with
  | [c0, c1, c2, c3, c4, c5, c6, c7, c8, c9, c10, c11, c12], _ => exact ⟨c0, c1, c2, c3, c4, c5, c6, c7, c8, c9, c10, c11, c12, rfl⟩
theorem view_booking {H : Type} {enc : TypeId × Value → H} {W : World} {base fuel : Nat} {held : Bool} {cs : List Value} {x : DataW H × List MemPlace}
    (h : DataW.trod enc Tryz.prog W base (fun _ => true) held fuel 105 cs = some x) (hw : ∀ y ∈ DataW.weights Tryz.prog 105 x.1, y ≤ reachBytes) :
    ∃ s : Book, Book.Is W cs s ∧ Book.Short s 1000000000000000 := by
  obtain ⟨y0, y1, y2, y3, y4, y5, y6, y7, n, hx, hl, h0, h1, h2, h3, h4, h5, h6, h7⟩ := trod_struct_booking Tryz.underlying105 h
  rw [hx] at hw
  rw [Tryz.cellsBooking] at hl
  obtain ⟨c0, c1, c2, c3, c4, c5, c6, c7, c8, c9, c10, c11, c12, rfl⟩ := list_booking hl
  simp only [Tryz.cellsInt, Tryz.cellsStrBooking, Tryz.cellsIntSBooking, Tryz.cellsParty, List.drop, List.take] at h0 h1 h2 h3 h4 h5 h6 h7
  obtain ⟨v0, e0, _, _⟩ := DataW.trod_int Tryz.underlying3 h0
  obtain ⟨v1, e1, _, _⟩ := DataW.trod_int Tryz.underlying3 h1
  obtain ⟨v2, e2, x2, _⟩ := DataW.trod_string Tryz.underlying9 h2
  have w2 : v2.size ≤ reachBytes := hw v2.size (by rw [x2]; simp [DataW.weights, DataW.weightsEach, Tryz.underlying105])
  unfold reachBytes at w2
  obtain ⟨alg, nlg, clg, llg, e3, glg, slg, nlgs⟩ := view_ints' h3 (fun x hx => hw x (by simp [DataW.weights, DataW.weightsEach, Tryz.underlying105, hx]))
  obtain ⟨p0, p1, p2, p3, p4, p5, m, _, k0, k1, k2, k3, k4, k5⟩ := trod_struct6 Tryz.underlying103 h4
  simp only [Tryz.cellsInt, Tryz.cellsBool, List.drop, List.take] at k0 k1 k2 k3 k4 k5
  obtain ⟨v4, e4, _, _⟩ := DataW.trod_int Tryz.underlying3 k0
  obtain ⟨v5, e5, _, _⟩ := DataW.trod_int Tryz.underlying3 k1
  obtain ⟨v6, e6, _, _⟩ := DataW.trod_int Tryz.underlying3 k2
  obtain ⟨v7, e7, _, _⟩ := DataW.trod_int Tryz.underlying3 k3
  obtain ⟨v8, e8, _⟩ := DataW.trod_bool Tryz.underlying4 k4
  obtain ⟨v9, e9, _, _⟩ := DataW.trod_int Tryz.underlying3 k5
  obtain ⟨v10, e10, _, _⟩ := DataW.trod_int Tryz.underlying3 h5
  obtain ⟨v11, e11, _, _⟩ := DataW.trod_int Tryz.underlying3 h6
  obtain ⟨v12, e12, _, _⟩ := DataW.trod_int Tryz.underlying3 h7
  simp at e0 e1 e2 e4 e5 e6 e7 e8 e9 e10 e11 e12
  subst e0 e1 e2 e4 e5 e6 e7 e8 e9 e10 e11 e12
  subst e3
  exact ⟨⟨v0, v1, v2, nlg, llg, v4, v5, v6, v7, v8, v9, v10, v11, v12⟩, ⟨alg, clg, rfl, glg, slg⟩, ⟨(show v2.size ≤ _ by omega), (show nlg ≤ _ from nlgs)⟩⟩
instance : Inhabited Book := ⟨⟨0, 0, ⟨#[]⟩, 0, fun _ => 0, 0, 0, 0, 0, false, 0, 0, 0, 0⟩⟩
theorem view_bookings {H : Type} {enc : TypeId × Value → H} {W : World} {base fuel : Nat} {held : Bool} {v : Value} {x : DataW H × List MemPlace}
    (h : DataW.trod enc Tryz.prog W base (fun _ => true) held fuel 24 [v] = some x) (hw : ∀ y ∈ DataW.weights Tryz.prog 24 x.1, y ≤ reachBytes) :
    ∃ ao n cap S, v = .slice ao n cap ∧ BooksAt W ao n S ∧ SliceOk ao n cap ∧ BooksShort n S 1000000000000000 ∧ n ≤ 1000000000000000 := by
  obtain ⟨ao, n, cap, C, rfl, hr, hl, hn, hb, hk⟩ := view_list Tryz.underlying24 Tryz.cellsBooking (by omega) Tryz.bytesBooking h hw
  have key : ∀ k, k < n → ∃ s : Book, Book.Is W (C k) s ∧ Book.Short s 1000000000000000 := by
    intro k hk'
    obtain ⟨_, fl, z, ht, hz⟩ := hk k hk'
    exact view_booking ht hz
  obtain ⟨S, hS⟩ := choose_lt key
  exact ⟨ao, n, cap, S, rfl, ⟨C, hr, fun k hk' => (hS k hk').1⟩, ⟨hl, by unfold reachBytes at hb; omega, hn⟩, fun k hk' => (hS k hk').2, by unfold reachBytes at hb; omega⟩
theorem open_booking {H : Type} {enc : TypeId × Value → H} {W : World} {base : Nat} {v : Value} {d : DataW H} {p : List MemPlace} (hv : Value.okWide Tryz.prog W .any base 105 v)
    (h : DataW.Trod enc Tryz.prog W 0 (fun _ => true) true 105 v d p) (hw : ∀ x ∈ DataW.weights Tryz.prog 105 d, x ≤ reachBytes) :
    ∃ (cs : List Value) (s : Book), v = .agg cs.toArray ∧ Book.Is W cs s ∧ Book.Short s 1000000000000000 := by
  obtain ⟨cs, rfl, _⟩ := okWide_struct Tryz.underlying105 hv
  obtain ⟨fuel, hf⟩ := h
  obtain ⟨s, h1, h2⟩ := view_booking hf hw
  exact ⟨cs.toList, s, by simp, by simpa [Value.cells] using h1, h2⟩
end Go.Proofs.YtlelckbeoclhbaaGreat
