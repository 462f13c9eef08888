/-
  OWN TEXT: LawOpenC, Views.
-/
import Derived.ProofKit
import Derived.OpenShut
import Derived.ChangeOld
import Derived.SizedLaws
import Derived.Deep.Slices
import Derived.Deep.Strs
import Derived.Lib.SmallJoins
import Derived.Test.YtogbaoggebghdaaXerks03
import Derived.Test.YtogbaoggebghdaaXerks05
import Derived.Test.YtogbaoggebghdaaB12
import Derived.Test.YtogbaoggebghdaaXerks06
import Derived.Test.YtogbaoggebghdaaB00
namespace Go.Proofs.Ytogbaoggebghdaa
open Go.RowKit

set_option maxHeartbeats 3200000 in
set_option maxRecDepth 100000 in
theorem lawOpenClerks (ao : Option Addr) (N c : Nat) (S : Nat → ClkD) (w : World) (hN : N ≤ 1000000000000000) (hs : ClkDsShort N S 1000000000000000) (hx : ClkDsAt w ao N S) :
    Calls Try.prog 7 #[.slice ao N c] w fun e w' => e = .returned (.bool true) ∧ Below w.heap.size w w' := by
  have HX : Hid (ClkDsAt w ao N S) := hx
  have HS0 : Hid (ClkDsShort N S 1000000000000000) := hs
  clear hx hs
  go_enter Try.func7, Try.ntmps7
  go_wp2_with fail
  refine (szClerkS_any ao N c S 1048576 _ (by omega) (by omega) hN HS0.out HX.out).mono ?_
  rintro e w1 ⟨r, rfl, hr, bw1⟩
  rcases hr with rfl | ⟨r0, _, hf, ht⟩
  · go_wp2
    go_ret
    exact ⟨rfl, bw1⟩
  have d0 : decide (r < 0) = false := by simpa using r0
  have HS : Hid (ClkDsShort N S 1048576) := ht
  clear ht HS0
  go_wp2_with fail
  refine (toClerkS_any ao N c S _ hf HS.out (HX.out.below bw1)).mono ?_
  rintro e w2 ⟨g2, C2, rfl, hl2, hb2⟩
  have bw2 := after bw1 hb2
  clear bw1 hb2
  go_wp2_with fail
  refine (specOpen_any _ N N S _ hf HS.out (hl2.at HS.out)).mono ?_
  rintro e w3 ⟨⟨vw, ok, ks, rfl, hW, hans⟩, hb3⟩
  have bw3 := after bw2 hb3
  obtain ⟨aw, cw, rfl, _⟩ := own_form hW
  have hkl := openAns_len hans.out (openTo_le S N)
  have HWL : Hid (∀ b, (Value.slice aw ks.length cw).ownBlock = some b → b < w3.heap.size) := fun b hb => (World.ownsRow.lt hW b hb).2
  clear hl2 bw2 hb3
  go_wp2_with fail
  refine (toClerkS_any ao N c S _ hf HS.out (HX.out.below bw3)).mono ?_
  rintro e w4 ⟨gx, CX, rfl, hX, hb4⟩
  have bw4 := after bw3 hb4
  have hW4 := hW.below hb4
  have HSZ : Hid (w.heap.size ≤ w3.heap.size ∧ w3.heap.size ≤ w4.heap.size) := ⟨bw3.size, hb4.size⟩
  clear bw3 hW hb4
  go_wp2_with fail
  refine (implOpen_any _ N N S _ hf HS.out (hX.at HS.out)).mono ?_
  rintro e w5 ⟨⟨vg, ok2, ks2, rfl, hG, hans2⟩, hb5⟩
  obtain ⟨rfl, rfl⟩ : ks2 = ks ∧ ok2 = ok := openAns_one hans.out hans2.out
  obtain ⟨ag, cg, rfl, _⟩ := own_form hG
  have HGL : Hid (∀ b, (Value.slice ag ks2.length cg).ownBlock = some b → w4.heap.size ≤ b) := fun b hb => (World.ownsRow.lt hG b hb).1
  have bw5 := after bw4 hb5
  have hW5 := hW4.below hb5
  have hX5 := hX.below hb5
  clear hans2 bw4 hW4 hX hb5
  go_wp2_with fail
  refine (eqStringS_same ag aw ks2.length cg cw (getB ks2) _ (by omega) hG.strs hW5.strs).mono ?_
  rintro e w6 ⟨rfl, hb6⟩
  have bw6 := after bw5 hb6
  have hW6 := hW5.below hb6
  have hX6 := hX5.below hb6
  have hG6 := hG.below hb6
  have hne : (ok2 != ok2) = false := by simp
  clear bw5 hW5 hX5 hG hb6
  go_wp2_with fail
  refine (toClerkS_any ao N c S _ hf HS.out (HX.out.below bw6)).mono ?_
  rintro e w7 ⟨g7, C7, rfl, hl7, hb7⟩
  have bw7 := after bw6 hb7
  have hW7 := hW6.below hb7
  have hX7 := hX6.below hb7
  have hG7 := hG6.below hb7
  clear bw6 hW6 hX6 hG6 hb7
  go_wp2_with fail
  refine (eqClerkS_same _ _ N N N S _ hf HS.out (hX7.at HS.out) (hl7.at HS.out)).mono ?_
  rintro e w8 ⟨rfl, hb8⟩
  have bw8 := after bw7 hb8
  have hW8 := hW7.below hb8
  have hX8 := hX7.below hb8
  have hG8 := hG7.below hb8
  clear bw7 hW7 hX7 hG7 hb8 hl7
  go_wp2_with fail
  refine (markClerkS_own gx N _ _ 1 S CX _ hf (by omega) HS.out hX8).mono ?_
  rintro e w9 ⟨⟨kk, hkk, rfl⟩, hk9⟩
  have bw9 := Kept.below bw8 bw8.size hk9 (fun b hb => by have := HSZ.out; omega)
  have hW9 : TextsIs w9 w2.heap.size (.slice aw ks2.length cw) ks2 := hk9.own hW8 (fun b hb e => by have := HWL.out b hb; omega)
  have hG9 : TextsIs w9 w4.heap.size (.slice ag ks2.length cg) ks2 := hk9.own hG8 (fun b hb e => by have := HGL.out b hb; omega)
  have e0 : decide ((kk : Int) < 0) = false := by simp
  clear bw8 hW8 hX8 hG8 hk9
  go_wp2_with fail
  refine (eqStringS_same ag aw ks2.length cg cw (getB ks2) _ (by omega) hG9.strs hW9.strs).mono ?_
  rintro e w10 ⟨rfl, hb10⟩
  have bw10 := after bw9 hb10
  have hW10 := hW9.below hb10
  have hG10 := hG9.below hb10
  clear bw9 hW9 hG9 hb10
  go_wp2_with fail
  refine (markStringS_own ag ks2.length cg w4.heap.size 1 (getB ks2) _ (by omega) (by omega) hG10.row).mono ?_
  rintro e w11 ⟨rfl, hG11, hk11⟩
  have bw11 := Kept.below bw10 bw10.size hk11 (fun b hb => by have := HGL.out b hb; have := HSZ.out; omega)
  have hW11 : TextsIs w11 w2.heap.size (.slice aw ks2.length cw) ks2 := hk11.own hW10 (fun b hb e => by have := HGL.out b e; have := HWL.out b hb; have := HSZ.out; omega)
  clear bw10 hW10 hG10 hk11
  obtain ⟨mm, hmm⟩ : ∃ mm : Nat, mm = 1 + ks2.length := ⟨_, rfl⟩
  have HM : Hid (1 + ks2.length = mm) := hmm.symm
  have e1 : decide ((mm : Int) < 0) = false := by simp
  have e2 : ((mm : Int) != (mm : Int)) = false := by simp
  rw [HM.out]
  clear hmm
  go_wp2_with fail
  refine (heldStringS_yes ag ks2.length cg 1 _ (by omega) (by omega) (own_strs hG11)).mono ?_
  rintro e w11b ⟨he, hb11⟩
  rw [HM.out] at he
  subst he
  replace bw11 := after bw11 hb11
  replace hW11 := hW11.below hb11
  replace hG11 := own_below hb11 hG11
  clear hb11
  go_wp2_with fail
  refine (toClerkS_any ao N c S _ hf HS.out (HX.out.below bw11)).mono ?_
  rintro e w12 ⟨g12, C12, rfl, hl12, hb12⟩
  have bw12 := after bw11 hb12
  have hW12 := hW11.below hb12
  have hG12 := own_below hb12 hG11
  clear bw11 hW11 hG11 hb12
  go_wp2_with fail
  refine (implOpen_any _ N N S _ hf HS.out (hl12.at HS.out)).mono ?_
  rintro e w13 ⟨⟨vk, ok3, ks3, rfl, hK, hans3⟩, hb13⟩
  obtain ⟨rfl, rfl⟩ : ks3 = ks2 ∧ ok3 = ok2 := openAns_one hans.out hans3.out
  obtain ⟨ak, ck, rfl, _⟩ := own_form hK
  have bw13 := after bw12 hb13
  have hW13 := hW12.below hb13
  have hG13 := own_below hb13 hG12
  clear bw12 hW12 hG12 hb13 hl12 hans3
  go_wp2_with fail
  refine (eqStringS_same ak aw ks3.length ck cw (getB ks3) _ (by omega) hK.strs hW13.strs).mono ?_
  rintro e w14 ⟨rfl, hb14⟩
  have bw14 := after bw13 hb14
  have hG14 := own_below hb14 hG13
  clear bw13 hW13 hG13 hb14 hK
  go_wp2_with fail
  refine (heldStringS_yes ag ks3.length cg 1 _ (by omega) (by omega) (own_strs hG14)).mono ?_
  rintro e w15 ⟨he, hb15⟩
  rw [HM.out] at he
  subst he
  go_wp2
  go_ret
  exact ⟨rfl, after bw14 hb15⟩

end Go.Proofs.Ytogbaoggebghdaa

namespace Go.Proofs.Ytogbaoggebghdaa
open Go.ChangeShapes Go.WideShapes Go.ChangeAt Go.RowKit Go.Deep

section
variable {H : Type} {enc : TypeId × Value → H} {P : Program} {w : World} {base : Nat} {spare : Nat → Bool} {held : Bool}

/-- How a list's datum tells its length. -/
def LenIs (d : DataW H) (n : Nat) : Prop := (d = .nil ∧ n = 0) ∨ ∃ els rest, d = .slice els rest ∧ els.length = n

theorem view_ints {t e fuel : Nat} {v : Value} {x : DataW H × List MemPlace} (ht : P.underlying t = some (.slice e)) (he : P.underlying e = some (.int .i64)) (hc : P.cellsOf e = 1)
    (h : DataW.trod enc P w base spare held fuel t [v] = some x) :
    ∃ ao n cap F, v = .slice ao n cap ∧ n ≤ cap ∧ cap ≤ maxLen ∧ (ao = none → n = 0 ∧ cap = 0) ∧ IntsAt w ao n F ∧ LenIs x.1 n := by
  rcases open_ints ht he hc h with ⟨hcs, hx⟩ | ⟨a, n, cap, zs, hcs, _, hl, hm, hz, hx, hcell, _⟩
  · simp at hcs
    subst hcs
    refine ⟨none, 0, 0, fun _ => 0, rfl, Nat.le_refl _, Nat.zero_le _, fun _ => ⟨rfl, rfl⟩, fun k hk => by omega, .inl ⟨by rw [hx], rfl⟩⟩
  · simp at hcs
    subst hcs
    have hzl : n ≤ zs.length := by rw [hz]; split <;> omega
    refine ⟨some a, n, cap, fun k => zs.getD k 0, rfl, hl, hm, (fun h => by cases h), (fun k hk => ?_), .inr ⟨_, _, by rw [hx], by simp [lits]; omega⟩⟩
    obtain ⟨b, off, rfl, hc2⟩ := ints_at hcell (by omega)
    exact ⟨b, off, rfl, hc2 k (by omega)⟩

theorem view_slots {t e fuel ti tb : Nat} {f0 f1 f2 : Field} {v : Value} {x : DataW H × List MemPlace} (ht : P.underlying t = some (.slice e)) (he : P.underlying e = some (.struct #[f0, f1, f2])) (hc : P.cellsOf e = 3)
    (t0 : f0.type = ti) (t1 : f1.type = tb) (t2 : f2.type = ti) (o0 : f0.offset = 0) (o1 : f1.offset = 1) (o2 : f2.offset = 2)
    (hi : P.underlying ti = some (.int .i64)) (hb : P.underlying tb = some .bool) (ci : P.cellsOf ti = 1) (cb : P.cellsOf tb = 1)
    (h : DataW.trod enc P w base spare held fuel t [v] = some x) :
    ∃ ao n cap A U V, v = .slice ao n cap ∧ n ≤ cap ∧ cap ≤ maxLen ∧ (ao = none → n = 0 ∧ cap = 0) ∧ SlotsAt w ao n A U V ∧ LenIs x.1 n := by
  rcases open_slice ht h with ⟨hcs, hx⟩ | ⟨a, n, cap, m, fl, D, Pl, hcs, _, hl, hm, hmm, hx, hcell⟩
  · simp at hcs
    subst hcs
    refine ⟨none, 0, 0, fun _ => 0, fun _ => false, fun _ => 0, rfl, Nat.le_refl _, Nat.zero_le _, fun _ => ⟨rfl, rfl⟩, fun k hk => by omega, .inl ⟨by rw [hx], rfl⟩⟩
  · simp at hcs
    subst hcs
    have hnm : n ≤ m := by rw [hmm]; split <;> omega
    by_cases hn0 : n = 0
    · subst hn0
      exact ⟨some a, 0, cap, fun _ => 0, fun _ => false, fun _ => 0, rfl, hl, hm, (fun h => by cases h), (fun k hk => by omega), .inr ⟨_, _, by rw [hx], by simp⟩⟩
    have hspot : a.spot = none := by
      obtain ⟨cs, hcl, _⟩ := hcell 0 (by omega)
      rw [hc] at hcl
      obtain ⟨_, hlen, hget⟩ := World.cells?_some hcl
      have g0 := hget 0 (by omega)
      rw [List.getElem?_eq_getElem (by omega)] at g0
      have := World.cell?_spot g0
      simpa [Addr.add] using this
    obtain ⟨b, off, spot⟩ := a
    simp only at hspot
    subst hspot
    have key : ∀ k, k < n → ∃ (y : Int × Bool × Int), w.cell? ⟨b, off + k * 3, none⟩ = some (.int .i64 y.1) ∧ w.cell? ⟨b, off + k * 3 + 1, none⟩ = some (.bool y.2.1) ∧ w.cell? ⟨b, off + k * 3 + 2, none⟩ = some (.int .i64 y.2.2) := by
      intro k hk
      obtain ⟨cs, hcl, htr⟩ := hcell k (by omega)
      rw [hc] at hcl
      obtain ⟨_, hlen, hget⟩ := World.cells?_some hcl
      obtain ⟨y0, y1, y2, n', _, _, h0, h1, h2⟩ := trod_struct3 he htr
      rw [t0, o0, ci] at h0
      rw [t1, o1, cb] at h1
      rw [t2, o2, ci] at h2
      match cs, hlen with
      | [p, q, r], _ =>
        obtain ⟨i0, e0, _, _⟩ := DataW.trod_int hi h0
        obtain ⟨i1, e1, _⟩ := DataW.trod_bool hb h1
        obtain ⟨i2, e2, _, _⟩ := DataW.trod_int hi h2
        simp at e0 e1 e2
        subst e0 e1 e2
        have g0 := hget 0 (by omega)
        have g1 := hget 1 (by omega)
        have g2 := hget 2 (by omega)
        simp only [List.getElem?_cons_zero, List.getElem?_cons_succ, Addr.add_lit, Nat.add_zero] at g0 g1 g2
        exact ⟨(i0, i1, i2), g0, g1, g2⟩
    obtain ⟨f, hf⟩ := choose_lt key
    exact ⟨some ⟨b, off, none⟩, n, cap, fun k => (f k).1, fun k => (f k).2.1, fun k => (f k).2.2, rfl, hl, hm, (fun h => by cases h), (fun k hk => ⟨b, off, rfl, hf k hk⟩), .inr ⟨_, _, by rw [hx], by simp⟩⟩

/-- The reach of a list: so many elements at most. -/
theorem len_reach {t e n : Nat} {d : DataW H} {bytes : Nat} (ht : P.underlying t = some (.slice e)) (hb : P.bytesOf e = bytes) (hd : LenIs d n) (hw : ∀ x ∈ DataW.weights P t d, x ≤ reachBytes) : n * bytes ≤ reachBytes := by
  rcases hd with ⟨_, rfl⟩ | ⟨els, rest, rfl, rfl⟩
  · omega
  · have := hw ((els.length + rest.length) * P.bytesOf e) (by simp [DataW.weights, ht])
    rw [hb] at this
    exact Nat.le_trans (Nat.mul_le_mul_right _ (Nat.le_add_right _ _)) this

end
end Go.Proofs.Ytogbaoggebghdaa
