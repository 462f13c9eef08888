/-
  OWN TEXT: contracts of the program's PlaceWhole and PlaceBerths.
-/
import Derived.Test.YtaalhmaacaahhaaPlaceRW
import Derived.Test.YtaalhmaacaahhaaPlaceRB
import Derived.Test.YtaalhmaacaahhaaWholeFor
namespace Go.Proofs.Ytaalhmaacaahhaa
open Go.RowKit

theorem first_iff {m : Nat} {P Q : Nat → Prop} {k : Nat} (h : ∀ j, j < m → (P j ↔ Q j)) : FirstOf m P k ↔ FirstOf m Q k := by
  unfold FirstOf
  constructor
  · rintro ⟨a, b, c⟩; exact ⟨a, (h k a).1 b, fun j hj q => c j hj ((h j (by omega)).2 q)⟩
  · rintro ⟨a, b, c⟩; exact ⟨a, (h k a).2 b, fun j hj q => c j hj ((h j (by omega)).1 q)⟩
/-- With the least that wholeFor asks. -/
theorem had_whole {p : Pairs} {n : Nat} {S : Nat → Room} {cl q lst : Int} (hg : GoodC p) (hl : (lst = q ∧ SomeFor p cl q) ∨ (lst = 0 ∧ ¬ SomeFor p cl q)) : ∀ j, j < p.n → (HadW p n S cl lst j ↔ WholeP p n S cl q j) := by
  intro j hj
  have hB := (hg.2 j hj).2
  unfold In at hB
  unfold HadW WholeP
  constructor
  · rintro ⟨a, b, c⟩
    refine ⟨a, b, ?_⟩
    rcases hl with ⟨rfl, _⟩ | ⟨rfl, h⟩
    · exact .inl c
    · exact .inr h
  · rintro ⟨a, b, c⟩
    refine ⟨a, b, ?_⟩
    rcases hl with ⟨rfl, h⟩ | ⟨rfl, _⟩
    · rcases c with c | c
      · exact c
      · exact absurd h c
    · omega
theorem placeG_of {p : Pairs} {n : Nat} {S : Nat → Room} {x : Int} (h : RoomsS p n S ∧ ¬ Has (whoR S) n x ∧ In x 1 9999) : PlaceG p n S x :=
  ⟨h.1, by have := rooms_few h.1; omega, h.2.1, h.2.2⟩

set_option maxHeartbeats 1600000 in
set_option maxRecDepth 100000 in
theorem implWhole_any (ao bo : Option Addr) (m mc n c : Nat) (p : Pairs) (S : Nat → Room) (x cl q : Int) (w : World) (hl : p.n = m) (hm : m ≤ 1048576) (hn : n ≤ 1048576) (hc : n ≤ c) (hx : PairsAt w ao p) (hz : RoomsAt w bo n S) (hnil : bo = none → n = 0 ∧ c = 0) :
    Calls Try.prog 36 #[.slice ao m mc, .slice bo n c, .int .i64 x, .int .i64 cl, .int .i64 q] w fun e w' => WholeRes w' w.heap.size 174 p n S x cl q e ∧ Below w.heap.size w w' := by
  have HX : Hid (PairsAt w ao p) := hx
  have HZ : Hid (RoomsAt w bo n S) := hz
  have HL : Hid (p.n = m) := hl
  have HNI : Hid (bo = none → n = 0 ∧ c = 0) := hnil
  clear hx hz hl hnil
  by_cases g1 : In q 1 20
  · have e1 : decide (In q 1 20) = true := decide_eq_true g1
    have H1 : Hid (In q 1 20) := g1
    clear g1
    go_enter Try.func36, Try.ntmps36
    go_wp2_with (first | (go_at_call 87; refine (within_is _ _ _ _).mono ?_; rintro e w' ⟨rfl, hw'⟩; have hw' := hw'.symm; subst hw') | (go_at_call 112; refine (wholeFor_any ao m mc p cl q _ HL.out hm HX.out).mono ?_; rintro e w1 ⟨⟨lst, rfl, hlst⟩, hb1⟩; have HLS : Hid ((lst = q ∧ SomeFor p cl q) ∨ (lst = 0 ∧ ¬ SomeFor p cl q)) := hlst; clear hlst) | (go_at_call 111; refine (placeW_any ao bo m mc n c p S x cl lst _ HL.out hm hn hc (HX.out.below hb1) (HZ.out.below hb1) HNI.out).mono ?_; rintro e w2 ⟨hans, hb2⟩; rcases hans with ⟨k, v, hmay, hfst, rfl, ho⟩ | ⟨hno, rfl⟩))
    · exact bodyPost_ret (v := .tuple #[v, .int .i64 (k : Int), .bool true]) (by simp [results, Try.results36, go_sem]) rfl ⟨wholeRes_yes ⟨placeG_of hmay, by rw [← hfst.2.1.1]; exact (hmay.1.1.2 k hfst.1).1, H1.out⟩ ((first_iff (had_whole hmay.1.1 HLS.out)).1 hfst) (own_base ho hb1.size), after hb1 hb2⟩
    · exact bodyPost_ret (v := .tuple #[.slice none 0 0, .int .i64 0, .bool false]) (by simp [results, Try.results36, go_sem]) rfl ⟨wholeRes_no (fun k h => hno k ⟨⟨h.1.1.1, h.1.1.2.2.1, h.1.1.2.2.2⟩, (first_iff (had_whole h.1.1.1.1 HLS.out)).2 h.2⟩), after hb1 hb2⟩
  · have e1 : decide (In q 1 20) = false := decide_eq_false g1
    have H1 : Hid (¬ In q 1 20) := g1
    clear g1
    go_enter Try.func36, Try.ntmps36
    go_wp2_with (first | (go_at_call 87; refine (within_is _ _ _ _).mono ?_; rintro e w' ⟨rfl, hw'⟩; have hw' := hw'.symm; subst hw'))
    exact bodyPost_ret (v := .tuple #[.slice none 0 0, .int .i64 0, .bool false]) (by simp [results, Try.results36, go_sem]) rfl ⟨wholeRes_no (fun k h => H1.out h.1.2.2), Below.refl _ _⟩

theorem had_berth {p : Pairs} {n : Nat} {S : Nat → Room} {cl q : Int} (h1 : 1 ≤ q) : ∀ j, j < p.n → (HadB p n S cl q j ↔ BerthP p n S cl q j) := by
  intro j _
  unfold HadB BerthP In
  constructor
  · rintro ⟨a, _, b⟩; exact ⟨a, b⟩
  · rintro ⟨a, b⟩; exact ⟨a, h1, b⟩

set_option maxHeartbeats 1600000 in
set_option maxRecDepth 100000 in
theorem implPlaceB_any (ao bo : Option Addr) (m mc n c : Nat) (p : Pairs) (S : Nat → Room) (x cl q : Int) (w : World) (hl : p.n = m) (hm : m ≤ 1048576) (hn : n ≤ 1048576) (hc : n ≤ c) (hx : PairsAt w ao p) (hz : RoomsAt w bo n S) (hnil : bo = none → n = 0 ∧ c = 0) :
    Calls Try.prog 41 #[.slice ao m mc, .slice bo n c, .int .i64 x, .int .i64 cl, .int .i64 q] w fun e w' => BerthRes w' w.heap.size 174 p n S x cl q e ∧ Below w.heap.size w w' := by
  have HX : Hid (PairsAt w ao p) := hx
  have HZ : Hid (RoomsAt w bo n S) := hz
  have HL : Hid (p.n = m) := hl
  have HNI : Hid (bo = none → n = 0 ∧ c = 0) := hnil
  clear hx hz hl hnil
  go_enter Try.func41, Try.ntmps41
  go_wp2_with (first | (go_at_call 111; refine (placeB_any ao bo m mc n c p S x cl q _ HL.out hm hn hc HX.out HZ.out HNI.out).mono ?_; rintro e w2 ⟨hans, hb2⟩; rcases hans with ⟨k, v, hmay, hfst, rfl, ho⟩ | ⟨hno, rfl⟩))
  · have hq := hfst.2.1.2
    have hb := leftR_bounds hmay.1.1 hmay.1.2.1 hmay.1.manys hfst.1
    unfold In at hq
    exact bodyPost_ret (v := .tuple #[v, .int .i64 (k : Int), .bool true]) (by simp [results, Try.results41, go_sem]) rfl ⟨berthRes_yes ⟨placeG_of hmay, by rw [← hfst.2.1.1]; exact (hmay.1.1.2 k hfst.1).1, by unfold In; omega⟩ ((first_iff (had_berth hq.1)).1 hfst) ho, hb2⟩
  · exact bodyPost_ret (v := .tuple #[.slice none 0 0, .int .i64 0, .bool false]) (by simp [results, Try.results41, go_sem]) rfl ⟨berthRes_no (fun k h => hno k ⟨⟨h.1.1.1, h.1.1.2.2.1, h.1.1.2.2.2⟩, (first_iff (had_berth h.1.2.2.1)).2 h.2⟩), hb2⟩

end Go.Proofs.Ytaalhmaacaahhaa
