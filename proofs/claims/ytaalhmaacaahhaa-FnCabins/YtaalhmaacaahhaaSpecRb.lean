/-
  OWN TEXT: the contract of the specification's FreeBerths.
-/
import Derived.Test.YtaalhmaacaahhaaSpecR
import Derived.Deep.DeepCutAuto
namespace Go.Proofs.Ytaalhmaacaahhaa
open Go.RowKit

set_option maxHeartbeats 800000 in
set_option maxRecDepth 100000 in
theorem specBerths_any (ao bo : Option Addr) (m mc n c : Nat) (p : Pairs) (S : Nat → Room) (w : World) (hl : p.n = m) (hm : m ≤ 1048576) (hn : n ≤ 1048576) (hc : n ≤ c) (hx : PairsAt w ao p) (hz : RoomsAt w bo n S) :
    Calls Try.prog 43 #[.slice ao m mc, .slice bo n c] w fun e w' => BerthsRes w' w.heap.size 3 p n S e ∧ Below w.heap.size w w' := by
  have HX : Hid (PairsAt w ao p) := hx
  have HZ : Hid (RoomsAt w bo n S) := hz
  have HL : Hid (p.n = m) := hl
  clear hx hz hl
  go_enter Try.func43, Try.ntmps43
  go_wp2_with fail
  refine (specRooms_any ao bo m mc n c p S _ HL.out hm hn hc HX.out HZ.out).mono ?_
  rintro e w1 ⟨⟨q, rfl, hq⟩, hb1⟩
  cases q with
  | false =>
    have HD : Hid (¬ RoomsS p n S) := fun h => by have := hq.2 h; cases this
    clear hq
    go_wp2
    exact bodyPost_ret (v := .tuple #[.slice none 0 0, .bool false]) (by simp [results, Try.results43, go_sem]) rfl ⟨berthsRes_no HD.out, hb1⟩
  | true =>
    have HD : Hid (RoomsS p n S) := hq.1 rfl
    clear hq
    go_wp2_with fail
    refine (l5Free_any ao bo m mc n c p S _ HL.out HD.out.1 HD.out.2.1 HD.out.manys (HX.out.below hb1) (HZ.out.below hb1)).mono ?_
    rintro e w2 ⟨⟨v, rfl, ho⟩, hb2⟩
    go_wp2
    exact bodyPost_ret (v := .tuple #[v, .bool true]) (by simp [results, Try.results43, go_sem]) rfl ⟨berthsRes_yes HD.out HL.out (own_base ho hb1.size), after hb1 hb2⟩

end Go.Proofs.Ytaalhmaacaahhaa
