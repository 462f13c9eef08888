/-
  OWN TEXT: the contract of the program's GoodDeck.
-/
import Derived.Test.YthhflmafpobgeaaFreeI
namespace Go.Proofs.Ythhflmafpobgeaa
open Go.RowKit

set_option maxHeartbeats 800000 in
set_option maxRecDepth 100000 in
theorem implDeck_any (ao bo : Option Addr) (m mc n c : Nat) (p : Pairs) (S : Nat → Stay) (w : World) (hl : p.n = m) (hm : m ≤ 1048576) (hn : n ≤ 1048576) (hc : n ≤ c) (hx : PairsAt w ao p) (hz : StaysAt w bo n S) :
    Calls Try.prog 33 #[.slice ao m mc, .slice bo n c] w fun e w' => SaysIf (DeckI p n S) e ∧ Below w.heap.size w w' := by
  have HX : Hid (PairsAt w ao p) := hx
  have HZ : Hid (StaysAt w bo n S) := hz
  have HL : Hid (p.n = m) := hl
  clear hx hz hl
  go_enter Try.func33, Try.ntmps33
  go_wp2_with fail
  refine (freeOnDeck_any ao bo m mc n c p S _ HL.out hm hn hc HX.out HZ.out).mono ?_
  rintro e w1 ⟨hans, hb1⟩
  unfold FreeAns four at hans
  rcases hans with ⟨hd, rfl⟩ | ⟨hd, rfl⟩
  · have HD : Hid (DeckI p n S) := hd
    clear hd
    go_wp2
    go_ret
    exact ⟨says_yes HD.out, push hb1 _⟩
  · have HD : Hid (¬ DeckI p n S) := hd
    clear hd
    go_wp2
    go_ret
    exact ⟨says_no HD.out, push hb1 _⟩

end Go.Proofs.Ythhflmafpobgeaa
