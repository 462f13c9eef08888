/-
  OWN TEXT: the walk of laws.FnExactSameAnswers: it returns true, and nothing that was there is written.
-/
import Derived.Test.YtcioofnmhfehaaaSameI
import Derived.Test.YtcioofnmhfehaaaSpecSa
import Derived.Test.YtcioofnmhfehaaaLDones
import Derived.Test.YtcioofnmhfehaaaLAnswers
namespace Go.Proofs.Ytcioofnmhfehaaa
open Go.RowKit

set_option maxHeartbeats 3200000 in
set_option maxRecDepth 100000 in
theorem lawSame (ao : Option Addr) (N c : Nat) (S : Nat → DoneD) (bo : Option Addr) (M d : Nat) (T : Nat → AnsD) (w : World) (hN : N ≤ 1000000000000000) (hs : DoneDsShort N S 1000000000000000) (hx : DoneDsAt w ao N S) (hM : M ≤ 1000000000000000) (ht : AnsDsShort M T 1000000000000000) (hy : AnsDsAt w bo M T) :
    Calls Try.prog 4 #[.slice ao N c, .slice bo M d] w fun e w' => e = .returned (.bool true) ∧ Below w.heap.size w w' := by
  have HX : Hid (DoneDsAt w ao N S) := hx
  have HS : Hid (DoneDsShort N S 1000000000000000) := hs
  have HY : Hid (AnsDsAt w bo M T) := hy
  have HT : Hid (AnsDsShort M T 1000000000000000) := ht
  clear hx hs hy ht
  go_enter Try.func4, Try.ntmps4
  go_wp2_with fail
  refine (szDoneS_any ao N c S 1048576 _ (by omega) (by omega) hN HS.out HX.out).mono ?_
  rintro e w1 ⟨r, rfl, hr, HB⟩
  rcases hr with rfl | ⟨r0, rl, n1, ht⟩
  · go_wp2
    go_ret
    exact ⟨rfl, HB⟩
  have d0 : decide (r < 0) = false := by simpa using r0
  have HS1 : Hid (DoneDsShort N S 1048576) := ht
  clear ht HS
  go_wp2_with fail
  refine (szAnswerS_any bo M d T r _ r0 rl hM HT.out (HY.out.below HB)).mono ?_
  rintro e w2 ⟨s, rfl, hr, hb⟩
  replace HB := after HB hb
  clear hb
  rcases hr with rfl | ⟨s0, _, n2, ht⟩
  · go_wp2
    go_ret
    exact ⟨rfl, HB⟩
  have d1 : decide (s < 0) = false := by simpa using s0
  have HT1 : Hid (AnsDsShort M T 1048576) := ht
  clear ht HT
  obtain ⟨q, hq⟩ : ∃ q : Bool, q = donesSame N M S T := ⟨_, rfl⟩
  have HQ : Hid (donesSame N M S T = q) := hq.symm
  clear hq
  go_wp2_with fail
  refine (toDoneS_any ao N c S _ n1 HS1.out (HX.out.below HB)).mono ?_
  rintro e w3 ⟨g3, C3, rfl, hin, hb⟩
  replace HB := after HB hb
  clear hb
  go_wp2_with fail
  refine (toAnswerS_any bo M d T _ n2 HT1.out (HY.out.below HB)).mono ?_
  rintro e w4 ⟨g4, C4, rfl, hin4, hb⟩
  replace HB := after HB hb
  replace hin := hin.below hb
  clear hb
  go_wp2_with fail
  refine (specSame_any (some ⟨g3, 0, none⟩) (some ⟨g4, 0, none⟩) N N M M S T _ n1 n2 HS1.out HT1.out (hin.at HS1.out) (hin4.at HT1.out)).mono ?_
  rintro e w5 ⟨he, hb⟩
  rw [HQ.out] at he
  subst he
  replace HB := after HB hb
  clear hb hin hin4
  go_wp2_with fail
  refine (toDoneS_any ao N c S _ n1 HS1.out (HX.out.below HB)).mono ?_
  rintro e w6 ⟨g6, C6, rfl, IN, hb⟩
  replace HB := after HB hb
  clear hb
  go_wp2_with fail
  refine (toAnswerS_any bo M d T _ n2 HT1.out (HY.out.below HB)).mono ?_
  rintro e w7 ⟨g7, C7, rfl, JN, hb⟩
  replace HB := after HB hb
  replace IN := IN.below hb
  clear hb
  go_wp2_with fail
  refine (implSame_any (some ⟨g6, 0, none⟩) (some ⟨g7, 0, none⟩) N N M M S T _ n1 n2 HS1.out HT1.out (IN.at HS1.out) (JN.at HT1.out)).mono ?_
  rintro e w8 ⟨he, hb⟩
  rw [HQ.out] at he
  subst he
  replace HB := after HB hb
  replace IN := IN.below hb
  replace JN := JN.below hb
  clear hb
  have hne : (q != q) = false := by simp
  go_wp2_with fail
  refine (toDoneS_any ao N c S _ n1 HS1.out (HX.out.below HB)).mono ?_
  rintro e w9 ⟨g9, C9, rfl, hin, hb⟩
  replace HB := after HB hb
  replace IN := IN.below hb
  replace JN := JN.below hb
  clear hb
  go_wp2_with fail
  refine (eqDoneS_same (some ⟨g6, 0, none⟩) (some ⟨g9, 0, none⟩) N N N S _ n1 HS1.out (IN.at HS1.out) (hin.at HS1.out)).mono ?_
  rintro e w10 ⟨rfl, hb⟩
  replace HB := after HB hb
  replace JN := JN.below hb
  clear hb hin IN
  go_wp2_with fail
  refine (toAnswerS_any bo M d T _ n2 HT1.out (HY.out.below HB)).mono ?_
  rintro e w11 ⟨g11, C11, rfl, hin, hb⟩
  replace HB := after HB hb
  replace JN := JN.below hb
  clear hb
  go_wp2_with fail
  refine (eqAnswerS_same (some ⟨g7, 0, none⟩) (some ⟨g11, 0, none⟩) M M M T _ n2 HT1.out (JN.at HT1.out) (hin.at HT1.out)).mono ?_
  rintro e w12 ⟨rfl, hb⟩
  replace HB := after HB hb
  clear hb hin JN
  go_wp2
  go_ret
  exact ⟨rfl, HB⟩

end Go.Proofs.Ytcioofnmhfehaaa
