/-
  OWN TEXT: the walk of laws.FnExactGoodClerks: it returns true, and nothing that was there is written.
-/
import Derived.Test.YtogbaoggebghdaaClerkI
import Derived.Test.YtogbaoggebghdaaSpecCk
import Derived.Test.YtogbaoggebghdaaLClerks
namespace Go.Proofs.Ytogbaoggebghdaa
open Go.RowKit

set_option maxHeartbeats 3200000 in
set_option maxRecDepth 100000 in
theorem lawGoodClerks (ao : Option Addr) (N c : Nat) (S : Nat → ClkD) (w : World) (hN : N ≤ 1000000000000000) (hs : ClkDsShort N S 1000000000000000) (hx : ClkDsAt w ao N S) :
    Calls Try.prog 4 #[.slice ao N c] w fun e w' => e = .returned (.bool true) ∧ Below w.heap.size w w' := by
  have HX : Hid (ClkDsAt w ao N S) := hx
  have HS : Hid (ClkDsShort N S 1000000000000000) := hs
  clear hx hs
  go_enter Try.func4, Try.ntmps4
  go_wp2_with fail
  refine (szClerkS_any ao N c S 1048576 _ (by omega) (by omega) hN HS.out HX.out).mono ?_
  rintro e w1 ⟨r, rfl, hr, HB⟩
  rcases hr with rfl | ⟨r0, _, n1, ht⟩
  · go_wp2
    go_ret
    exact ⟨rfl, HB⟩
  have d0 : decide (r < 0) = false := by simpa using r0
  have HT : Hid (ClkDsShort N S 1048576) := ht
  clear ht HS
  obtain ⟨q, hq⟩ : ∃ q : Bool, q = clerksOk N S := ⟨_, rfl⟩
  have HQ : Hid (clerksOk N S = q) := hq.symm
  clear hq
  go_wp2_with fail
  refine (toClerkS_any ao N c S _ n1 HT.out (HX.out.below HB)).mono ?_
  rintro e w3 ⟨g3, C3, rfl, hin, hb⟩
  replace HB := after HB hb
  clear hb
  go_wp2_with fail
  refine (specGoodC_any (some ⟨g3, 0, none⟩) N N S _ n1 HT.out (hin.at HT.out)).mono ?_
  rintro e w5 ⟨he, hb⟩
  rw [HQ.out] at he
  subst he
  replace HB := after HB hb
  clear hb hin
  go_wp2_with fail
  refine (toClerkS_any ao N c S _ n1 HT.out (HX.out.below HB)).mono ?_
  rintro e w6 ⟨g6, C6, rfl, IN, hb⟩
  replace HB := after HB hb
  clear hb
  go_wp2_with fail
  refine (implGoodC_any (some ⟨g6, 0, none⟩) N N S _ n1 HT.out (IN.at HT.out)).mono ?_
  rintro e w8 ⟨he, hb⟩
  rw [HQ.out] at he
  subst he
  replace HB := after HB hb
  replace IN := IN.below hb
  clear hb
  have hne : (q != q) = false := by simp
  go_wp2_with fail
  refine (toClerkS_any ao N c S _ n1 HT.out (HX.out.below HB)).mono ?_
  rintro e w9 ⟨g9, C9, rfl, hin, hb⟩
  replace HB := after HB hb
  replace IN := IN.below hb
  clear hb
  go_wp2_with fail
  refine (eqClerkS_same (some ⟨g6, 0, none⟩) (some ⟨g9, 0, none⟩) N N N S _ n1 HT.out (IN.at HT.out) (hin.at HT.out)).mono ?_
  rintro e w10 ⟨rfl, hb⟩
  replace HB := after HB hb
  clear hb hin IN
  go_wp2
  go_ret
  exact ⟨rfl, HB⟩

end Go.Proofs.Ytogbaoggebghdaa
