/-
  OWN TEXT: the laws' helpers markOffice and heldOffice over an answer of NewOffice.
-/
import Derived.Test.YtlnadbnoemlpeaaMarkOS
import Derived.Test.YtlnadbnoemlpeaaNewI
namespace Go.Proofs.Ytlnadbnoemlpeaa
open Go.RowKit Classical

set_option maxHeartbeats 1600000 in
theorem markOffice0 (ao al : Option Addr) (n c cl base : Nat) (S : Nat → Sail) (L C : Nat → Value) (w : World) (hN : n ≤ 1048576) (hs : ∀ i, i < n → (S i).la.n ≤ 1048576 ∧ (S i).ca.n ≤ 1048576) (ho : OwnSails w base (.slice ao n c) n S L C) (hl : w.ownsRow base 66 3 (.slice al n cl) n (nilRow n)) (lim : Nat) (hlim : OwnLim (.slice ao n c) n L C lim) (hle : lim ≤ w.heap.size) :
    Calls Try.prog 11 #[.agg #[.slice ao n c, .slice al n cl, .slice none 0 0], .int .i64 1] w fun e w' => e = .returned (.int .i64 ((kS S 1 n : Nat) : Int)) ∧ OwnSails w' base (.slice ao n c) n (mS S 1) L C ∧ w'.ownsRow base 66 3 (.slice al n cl) n (nilRow n) ∧ Kept w w' (fun b => base ≤ b ∧ b < lim) := by
  have HO : Hid (OwnSails w base (.slice ao n c) n S L C) := ho
  have HL : Hid (w.ownsRow base 66 3 (.slice al n cl) n (nilRow n)) := hl
  have HS : Hid (∀ i, i < n → (S i).la.n ≤ 1048576 ∧ (S i).ca.n ≤ 1048576) := hs
  have HLI : Hid (OwnLim (.slice ao n c) n L C lim) := hlim
  clear ho hl hs hlim
  have hb0 : Below w.heap.size w (w.alloc (.cells #[.slice ao n c, .slice al n cl, .slice none 0 0] 28)) := push (Below.refl _ _) _
  have bO := heap_alloc_new w (.cells #[.slice ao n c, .slice al n cl, .slice none 0 0] 28)
  go_enter Try.func11, Try.ntmps11
  go_wp2_with fail
  generalize w.alloc (.cells #[.slice ao n c, .slice al n cl, .slice none 0 0] 28) = V at hb0 bO ⊢
  refine (markSails_own ao n c base 1 S L C _ hN (by decide) HS.out (HO.out.below hb0) lim HLI.out).mono ?_
  rintro e w1 ⟨rfl, ho1, hk1, hl1⟩
  have bO1 := hk1.blk bO (fun e => by have e : base ≤ w.heap.size ∧ w.heap.size < lim := e; omega)
  have HO1 : Hid (OwnSails w1 base (.slice ao n c) n (mS S 1) L C) := ho1
  have HL1 : Hid (w1.ownsRow base 66 3 (.slice al n cl) n (nilRow n)) := hl1 _ _ _ (own_below hb0 HL.out)
  have HK1 : Hid (Kept w w1 (fun b => base ≤ b ∧ b < lim)) := (Kept.of_below hb0).trans hk1
  clear ho1 hk1 hl1
  have y1 := blk_cell bO1 1 _ rfl
  have y2 := blk_cell bO1 2 _ rfl
  go_wp2_with (first | (go_at_call 26; refine (markLoadS0 al n cl _ _ (by omega) hN (loads0_of_own HL1.out)).mono ?_; rintro e w' ⟨rfl, hw'⟩; have hw' := hw'.symm; subst hw') | (go_at_call 27; refine (markBookingS0 _ _ _ _).mono ?_; rintro e w' ⟨rfl, hw'⟩; have hw' := hw'.symm; subst hw'))
  go_ret
  exact ⟨rfl, HO1.out, HL1.out, HK1.out⟩

set_option maxHeartbeats 1600000 in
theorem heldOffice0 (ao al : Option Addr) (n c cl base : Nat) (S : Nat → Sail) (L C : Nat → Value) (w : World) (hN : n ≤ 1048576) (hs : ∀ i, i < n → (S i).la.n ≤ 1048576 ∧ (S i).ca.n ≤ 1048576) (ho : OwnSails w base (.slice ao n c) n (mS S 1) L C) (hl : w.ownsRow base 66 3 (.slice al n cl) n (nilRow n)) :
    Calls Try.prog 12 #[.agg #[.slice ao n c, .slice al n cl, .slice none 0 0], .int .i64 1] w fun e w' => e = .returned (.int .i64 ((kS S 1 n : Nat) : Int)) ∧ Below w.heap.size w w' := by
  have HO : Hid (SailsAt w ao n (mS S 1)) := ho.at
  have HL : Hid (Loads0 w al n) := loads0_of_own hl
  have HS : Hid (∀ i, i < n → (S i).la.n ≤ 1048576 ∧ (S i).ca.n ≤ 1048576) := hs
  clear ho hl hs
  have hb0 : Below w.heap.size w (w.alloc (.cells #[.slice ao n c, .slice al n cl, .slice none 0 0] 28)) := push (Below.refl _ _) _
  have bO := heap_alloc_new w (.cells #[.slice ao n c, .slice al n cl, .slice none 0 0] 28)
  go_enter Try.func12, Try.ntmps12
  go_wp2_with fail
  generalize w.alloc (.cells #[.slice ao n c, .slice al n cl, .slice none 0 0] 28) = V at hb0 bO ⊢
  refine (heldSails_yes ao n c 1 S _ hN (by decide) HS.out (HO.out.below hb0)).mono ?_
  rintro e w1 ⟨rfl, hb⟩
  have hb1 := after hb0 hb
  have bO1 := blk_below bO hb
  clear hb0 bO hb
  have y1 := blk_cell bO1 1 _ rfl
  have y2 := blk_cell bO1 2 _ rfl
  have e0 : decide (((kS S 1 n : Nat) : Int) < 0) = false := by simp
  go_wp2_with (first | (go_at_call 29; refine (heldLoadS0 al n cl _ _ (by omega) hN (HL.out.below hb1)).mono ?_; rintro e w' ⟨rfl, hw'⟩; have hw' := hw'.symm; subst hw') | (go_at_call 30; refine (heldBookingS0 _ _ _ _).mono ?_; rintro e w' ⟨rfl, hw'⟩; have hw' := hw'.symm; subst hw'))
  go_ret
  exact ⟨rfl, hb1⟩

end Go.Proofs.Ytlnadbnoemlpeaa
