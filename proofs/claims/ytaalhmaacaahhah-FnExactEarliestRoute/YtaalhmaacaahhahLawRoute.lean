/-
  OWN TEXT: the walk of laws.FnExactEarliestRoute: it returns true, and nothing that was there is written.
-/
import Derived.Test.YtaalhmaacaahhahEarlyT
import Derived.Test.YtaalhmaacaahhahMarkT
import Derived.Test.YtaalhmaacaahhahMarkInts
import Derived.Test.YtaalhmaacaahhahIntsEq
namespace Go.Proofs.Ytaalhmaacaahhah
open Go.RowKit

/-- The answer's two parts. -/
def AnsOf (N : Nat) (S : Nat → Sail) (fr tt : ByteArray) (t0 : Int) (p : List Int) (ok : Bool) : Prop := ∃ a, AnsIs N S fr tt t0 a ∧ p = ids S (a.getD []) ∧ ok = a.isSome
theorem ans_same {N : Nat} {S : Nat → Sail} {fr tt : ByteArray} {t0 : Int} {p q : List Int} {o u : Bool} (h : AnsOf N S fr tt t0 p o) (k : AnsOf N S fr tt t0 q u) : q = p ∧ u = o := by
  obtain ⟨a, ha, rfl, rfl⟩ := h
  obtain ⟨b, hb, rfl, rfl⟩ := k
  obtain rfl := ans_one ha hb
  exact ⟨rfl, rfl⟩
theorem RouteOut.parts {e : Ending} {w w' : World} {N : Nat} {S : Nat → Sail} {fr tt : ByteArray} {t0 : Int} (h : RouteOut e w w' N S fr tt t0) :
    ∃ (p : List Int) (ok : Bool) (ao : Option Addr) (c : Nat), AnsOf N S fr tt t0 p ok ∧ p.length ≤ 3 ∧ e = .returned (.tuple #[.slice ao p.length c, .bool ok]) ∧ w'.ownsRow w.heap.size 3 1 (.slice ao p.length c) p.length (intList (getI p) p.length) ∧ Below w.heap.size w w' := by
  obtain ⟨a, ao, c, ha, rfl, ho, hb⟩ := h
  refine ⟨ids S (a.getD []), a.isSome, ao, c, ⟨a, ha, rfl, rfl⟩, ?_, by rw [ids_length], by rw [← ids_length S] at ho; exact ho, hb⟩
  rw [ids_length]
  cases a with
  | none => simp
  | some p => exact ha.2.1.2.1

set_option maxHeartbeats 3200000 in
theorem lawEarliestRoute (ao : Option Addr) (N c : Nat) (S : Nat → Sail) (fr tt : ByteArray) (t0 : Int) (w : World) (hN : N ≤ 1000000000000000) (hs : ShortAll N S 1000000000000000) (hx : SailsAt w ao N S) (hfr : fr.size ≤ 1000000000000000) (htt : tt.size ≤ 1000000000000000) :
    Calls Try.prog 5 #[.slice ao N c, .string fr, .string tt, .int .i64 t0] w fun e w' => e = .returned (.bool true) ∧ Below w.heap.size w w' := by
  by_cases hm : fr.size ≤ 1048576
  case neg =>
    have dm : decide (1048576 < fr.size) = true := by simp; omega
    go_enter Try.func5, Try.ntmps5
    go_wp2
    go_ret
    exact ⟨rfl, Below.refl _ _⟩
  have dm : decide (1048576 < fr.size) = false := by simp; omega
  by_cases hm2 : tt.size ≤ 1048576
  case neg =>
    have dm2 : decide (1048576 < tt.size) = true := by simp; omega
    go_enter Try.func5, Try.ntmps5
    go_wp2
    go_ret
    exact ⟨rfl, Below.refl _ _⟩
  have dm2 : decide (1048576 < tt.size) = false := by simp; omega
  go_enter Try.func5, Try.ntmps5
  go_wp2_with fail
  refine (szSailingS_any ao N c S _ hN hs hx).mono ?_
  rintro e w1 ⟨r, rfl, hr, hb1⟩
  rcases hr with rfl | ⟨r0, hf, hs2⟩
  · go_wp2
    go_ret
    exact ⟨rfl, hb1⟩
  · have HS : Hid (ShortAll N S 1048576) := hs2
    have HL : Hid (∀ i, i < N → (S i).la.n ≤ 1048576) := fun i hi => (hs2 i hi).2.2.1
    have HC : Hid (∀ i, i < N → (S i).ca.n ≤ 1048576) := fun i hi => (hs2 i hi).2.2.2
    have d0 : decide (r < 0) = false := by simpa using r0
    clear hs2 hs
    go_wp2_with fail
    refine (toSailingS_any ao N c S _ hf HS.out (hx.below hb1)).mono ?_
    rintro e w2 ⟨g, h, q, rfl, hl2, hb2⟩
    have hl2 := hl2.sails HL.out HC.out
    have hbel2 := after hb1 hb2
    clear hb1 hb2
    go_wp2_with fail
    refine (specRoute_any _ _ N N S fr tt t0 _ hf HS.out hfr htt hl2).mono ?_
    rintro e w3 hR3
    obtain ⟨p, ok, a1, c1, hA, hp3, rfl, hW3, hb3⟩ := hR3.parts
    have HA : Hid (AnsOf N S fr tt t0 p ok) := hA
    have hbel3 := after hbel2 hb3
    clear hR3 hA hl2 hbel2 hb3
    go_wp2_with fail
    refine (toSailingS_any ao N c S _ hf HS.out (hx.below hbel3)).mono ?_
    rintro e w4 ⟨g4, h4, q4, rfl, hl4, hb4⟩
    have hW4 := own_below hb4 hW3
    have hbel4 := after hbel3 hb4
    have HK : Hid (w.heap.size ≤ w3.heap.size ∧ w3.heap.size ≤ g4 ∧ g4 < w4.heap.size ∧ (∀ i, i < N → q4 i < w4.heap.size) ∧ (∀ b, (Value.slice a1 p.length c1).ownBlock = some b → b < w3.heap.size)) := ⟨hbel3.size, hl4.lo, hl4.row.lt, fun i hi => (hl4.cabins i hi).2.lt, fun b hb => (hW3.lt b hb).2⟩
    clear hbel3 hb4 hW3
    go_wp2_with fail
    refine (implRoute_any _ _ N N S fr tt t0 _ hf HS.out hfr htt (hl4.sails HL.out HC.out)).mono ?_
    rintro e w5 hR5
    obtain ⟨p', ok', a2, c2, hA', _, rfl, hG5, hb5⟩ := hR5.parts
    obtain ⟨rfl, rfl⟩ := ans_same HA.out hA'
    have hW5 := own_below hb5 hW4
    have hl5 := hl4.below hb5
    have hbel5 := after hbel4 hb5
    clear hR5 hA' hW4 hl4 hbel4 hb5
    have HG : Hid (∀ b, (Value.slice a2 p'.length c2).ownBlock = some b → w4.heap.size ≤ b) := fun b hb => (hG5.lt b hb).1
    go_wp2_with fail
    refine (eqIntS_same _ _ _ _ _ (getI p') _ (by omega) (own_ints hG5) (own_ints hW5)).mono ?_
    rintro e w6 ⟨rfl, hb6⟩
    have hW6 := own_below hb6 hW5
    have hG6 := own_below hb6 hG5
    have hl6 := hl5.below hb6
    have hbel6 := after hbel5 hb6
    clear hW5 hG5 hl5 hbel5 hb6
    go_wp2_with fail
    refine (toSailingS_any ao N c S _ hf HS.out (hx.below hbel6)).mono ?_
    rintro e w7 ⟨g7, h7, q7, rfl, hl7, hb7⟩
    have hW7 := own_below hb7 hW6
    have hG7 := own_below hb7 hG6
    have hx7 := hl6.below hb7
    have hbel7 := after hbel6 hb7
    clear hW6 hG6 hl6 hbel6 hb7
    go_wp2_with fail
    refine (eqSailingS_same _ _ N N N S _ hf HS.out (hx7.sails HL.out HC.out) (hl7.sails HL.out HC.out)).mono ?_
    rintro e w8 ⟨rfl, hb8⟩
    have hW8 := own_below hb8 hW7
    have hG8 := own_below hb8 hG7
    have hx8 := hx7.below hb8
    have hbel8 := after hbel7 hb8
    clear hW7 hG7 hl7 hx7 hbel7 hb8
    go_wp2_with fail
    refine (markSailingS_own g4 N w4.heap.size _ 1 _ _ _ _ _ hf (by omega) HL.out HC.out HK.out.2.2.1 HK.out.2.2.2.1 (hx8.mark hf HL.out HC.out)).mono ?_
    rintro e w9 ⟨⟨k9, hk9, rfl⟩, hk⟩
    have hW9 := hk.own hW8 (fun b hb e => by have := HK.out.2.2.2.2 b hb; have := HK.out.2.1; omega)
    have hG9 := hk.own hG8 (fun b hb e => by have := HG.out b hb; omega)
    have hbel9 := Kept.below hbel8 hbel8.size hk (fun b e => by have := HK.out.1; have := HK.out.2.1; omega)
    clear hW8 hG8 hx8 hbel8 hk
    have d9 : decide ((k9 : Int) < 0) = false := by simp
    go_wp2_with fail
    refine (eqIntS_same _ _ _ _ _ (getI p') _ (by omega) (own_ints hG9) (own_ints hW9)).mono ?_
    rintro e w10 ⟨rfl, hb10⟩
    have hW10 := own_below hb10 hW9
    have hG10 := own_below hb10 hG9
    have hbel10 := after hbel9 hb10
    clear hW9 hG9 hbel9 hb10
    go_wp2_with fail
    refine (markIntS_own a2 p'.length c2 _ (getI p') 1 _ (by omega) (by omega) (by omega) hG10).mono ?_
    rintro e w11 ⟨rfl, hG11, hk11⟩
    have hbel11 := Kept.below hbel10 hbel10.size hk11 (by rintro b ⟨g', e1, e2⟩; have := HG.out b (by subst e1; subst e2; rfl); have := HK.out.1; have := HK.out.2.1; have := HK.out.2.2.1; omega)
    have hW11 := hk11.own hW10 (by rintro b hb ⟨g', e1, e2⟩; have := HG.out b (by subst e1; subst e2; rfl); have := HK.out.2.2.2.2 b hb; have := HK.out.2.1; have := HK.out.2.2.1; omega)
    clear hW10 hG10 hbel10 hk11
    have dA : decide ((1 : Int) + (p'.length : Int) < 0) = false := by simp; omega
    go_wp2_with fail
    refine (heldIntS_yes a2 p'.length c2 1 _ (by omega) (by omega) (by omega) (own_ints hG11)).mono ?_
    rintro e w12 ⟨rfl, rfl⟩
    go_wp2_with fail
    refine (toSailingS_any ao N c S _ hf HS.out (hx.below hbel11)).mono ?_
    rintro e w13 ⟨g13, h13, q13, rfl, hl13, hb13⟩
    have hW13 := own_below hb13 hW11
    have hG13 := own_below hb13 hG11
    have hbel13 := after hbel11 hb13
    clear hW11 hG11 hbel11 hb13
    go_wp2_with fail
    refine (implRoute_any _ _ N N S fr tt t0 _ hf HS.out hfr htt (hl13.sails HL.out HC.out)).mono ?_
    rintro e w14 hR14
    obtain ⟨p3, ok3, a3, c3, hA3, _, rfl, hY14, hb14⟩ := hR14.parts
    obtain ⟨rfl, rfl⟩ := ans_same HA.out hA3
    have hW14 := own_below hb14 hW13
    have hG14 := own_below hb14 hG13
    have hbel14 := after hbel13 hb14
    clear hR14 hA3 hW13 hG13 hl13 hbel13 hb14
    go_wp2_with fail
    refine (eqIntS_same _ _ _ _ _ (getI p3) _ (by omega) (own_ints hY14) (own_ints hW14)).mono ?_
    rintro e w15 ⟨rfl, hb15⟩
    have hG15 := own_below hb15 hG14
    have hbel15 := after hbel14 hb15
    clear hW14 hG14 hY14 hbel14 hb15
    go_wp2_with fail
    refine (heldIntS_yes a2 p3.length c2 1 _ (by omega) (by omega) (by omega) (own_ints hG15)).mono ?_
    rintro e w16 ⟨rfl, rfl⟩
    go_wp2
    go_ret
    exact ⟨rfl, hbel15⟩

end Go.Proofs.Ytaalhmaacaahhah
