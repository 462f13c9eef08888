/-
  OWN TEXT: the laws' helpers markSailingS and heldSailingS over sailings that an answer owns, their marks told.
-/
import Derived.Test.YtlnadbnoemlpeaaMarkPP
import Derived.Deep.DeepCutAuto
namespace Go.Proofs.Ytlnadbnoemlpeaa
open Go.RowKit

def kS (S : Nat → Sail) (k0 : Nat) : Nat → Nat
  | 0 => k0
  | i + 1 => kS S k0 i + (6 + 2 * (S i).la.n + 2 * (S i).ca.n)
/-- The sailing i as it is marked. -/
def mS (S : Nat → Sail) (k0 : Nat) (i : Nat) : Sail :=
  ⟨(kS S k0 i : Nat), markT (kS S k0 i + 1), markT (kS S k0 i + 2), (kS S k0 i + 3 : Nat), (kS S k0 i + 4 : Nat), markP (kS S k0 i + 5) (S i).la, markP (kS S k0 i + 5 + 2 * (S i).la.n) (S i).ca, (kS S k0 i + 5 + 2 * (S i).la.n + 2 * (S i).ca.n : Nat)⟩
def mix (S : Nat → Sail) (k0 t : Nat) (i : Nat) : Sail := if i < t then mS S k0 i else S i
theorem mix_lt {S : Nat → Sail} {k0 t i : Nat} (h : i < t) : mix S k0 t i = mS S k0 i := if_pos h
theorem mix_ge {S : Nat → Sail} {k0 t i : Nat} (h : ¬ i < t) : mix S k0 t i = S i := if_neg h
theorem mix_n (S : Nat → Sail) (k0 t i : Nat) : (mix S k0 t i).la.n = (S i).la.n ∧ (mix S k0 t i).ca.n = (S i).ca.n := by
  unfold mix; split <;> exact ⟨rfl, rfl⟩
theorem kS_le {S : Nat → Sail} {k0 N : Nat} (h : ∀ i, i < N → (S i).la.n ≤ 1048576 ∧ (S i).ca.n ≤ 1048576) : ∀ i, i ≤ N → kS S k0 i ≤ k0 + i * 4194310
  | 0, _ => by unfold kS; omega
  | i + 1, hi => by
    have := kS_le (k0 := k0) h i (by omega)
    have := h i (by omega)
    unfold kS
    omega
/-- All blocks of sailings that are owned lie below lim. -/
def OwnLim (v : Value) (N : Nat) (L C : Nat → Value) (lim : Nat) : Prop := (∀ b, v.ownBlock = some b → b < lim) ∧ ∀ i, i < N → (∀ b, (L i).ownBlock = some b → b < lim) ∧ (∀ b, (C i).ownBlock = some b → b < lim)
theorem OwnSails.lim {w : World} {base : Nat} {v : Value} {N : Nat} {S : Nat → Sail} {L C : Nat → Value} (h : OwnSails w base v N S L C) : OwnLim v N L C w.heap.size :=
  ⟨fun b hb => (h.row.lt b hb).2, fun i hi => ⟨fun b hb => ((h.la i hi).lt b hb).2, fun b hb => ((h.ca i hi).lt b hb).2⟩⟩
theorem markLaneZ (z : Int) (ao : Option Addr) (c base k0 : Nat) (p : Pairs) (w : World) (hz : z = (k0 : Int)) (hn : p.n ≤ 1048576) (h1 : k0 ≤ 100000000000000) (ho : w.ownsRow base 77 2 (.slice ao p.n c) p.n (pairRow p)) :
    Calls Try.prog 24 #[.slice ao p.n c, .int .i64 z] w fun e w' => e = .returned (.int .i64 ((k0 + 2 * p.n : Nat) : Int)) ∧ w'.ownsRow base 77 2 (.slice ao p.n c) p.n (pairRow (markP k0 p)) ∧ Kept w w' (fun b => (Value.slice ao p.n c).ownBlock = some b) := by
  subst hz; exact markLaneP ao c base k0 p w hn h1 ho
theorem markCabinZ (z : Int) (ao : Option Addr) (c base k0 : Nat) (p : Pairs) (w : World) (hz : z = (k0 : Int)) (hn : p.n ≤ 1048576) (h1 : k0 ≤ 100000000000000) (ho : w.ownsRow base 80 2 (.slice ao p.n c) p.n (pairRow p)) :
    Calls Try.prog 25 #[.slice ao p.n c, .int .i64 z] w fun e w' => e = .returned (.int .i64 ((k0 + 2 * p.n : Nat) : Int)) ∧ w'.ownsRow base 80 2 (.slice ao p.n c) p.n (pairRow (markP k0 p)) ∧ Kept w w' (fun b => (Value.slice ao p.n c).ownBlock = some b) := by
  subst hz; exact markCabinP ao c base k0 p w hn h1 ho
theorem heldLaneZ (z : Int) (ao : Option Addr) (c k0 : Nat) (p : Pairs) (w : World) (hz : z = (k0 : Int)) (hn : p.n ≤ 1048576) (h1 : k0 ≤ 100000000000000) (h : PairsAt w ao (markP k0 p)) :
    Calls Try.prog 48 #[.slice ao p.n c, .int .i64 z] w fun e w' => e = .returned (.int .i64 ((k0 + 2 * p.n : Nat) : Int)) ∧ w' = w := by
  subst hz; exact heldLaneP ao c k0 p w hn h1 h
theorem heldCabinZ (z : Int) (ao : Option Addr) (c k0 : Nat) (p : Pairs) (w : World) (hz : z = (k0 : Int)) (hn : p.n ≤ 1048576) (h1 : k0 ≤ 100000000000000) (h : PairsAt w ao (markP k0 p)) :
    Calls Try.prog 49 #[.slice ao p.n c, .int .i64 z] w fun e w' => e = .returned (.int .i64 ((k0 + 2 * p.n : Nat) : Int)) ∧ w' = w := by
  subst hz; exact heldCabinP ao c k0 p w hn h1 h

set_option maxHeartbeats 6400000 in
set_option maxRecDepth 100000 in
theorem markSails_own (ao : Option Addr) (N c base k0 : Nat) (S : Nat → Sail) (L C : Nat → Value) (w : World) (hN : N ≤ 1048576) (h1 : k0 ≤ 1048576) (hs : ∀ i, i < N → (S i).la.n ≤ 1048576 ∧ (S i).ca.n ≤ 1048576) (ho : OwnSails w base (.slice ao N c) N S L C) (lim : Nat) (hlim : OwnLim (.slice ao N c) N L C lim) :
    Calls Try.prog 10 #[.slice ao N c, .int .i64 (k0 : Int)] w fun e w' => e = .returned (.int .i64 ((kS S k0 N : Nat) : Int)) ∧ OwnSails w' base (.slice ao N c) N (mS S k0) L C ∧ Kept w w' (fun b => base ≤ b ∧ b < lim) ∧ (∀ lv n xs, w.ownsRow base 66 3 lv n xs → w'.ownsRow base 66 3 lv n xs) := by
  have HS : Hid (∀ i, i < N → (S i).la.n ≤ 1048576 ∧ (S i).ca.n ≤ 1048576) := hs
  have HLIM : Hid (OwnLim (.slice ao N c) N L C lim) := hlim
  clear hlim
  have HO0 : Hid (OwnSails w base (.slice ao N c) N S L C) := ho
  clear hs ho
  go_enter Try.func10, Try.ntmps10
  go_wp2
  go_loopw [1, 5] (fun q i wr => ∃ (t k : Nat), t ≤ N ∧ i = .int .i64 t ∧ q = .int .i64 k ∧ k = kS S k0 t ∧ OwnSails wr base (.slice ao N c) N (mix S k0 t) L C ∧ Kept w wr (fun b => base ≤ b ∧ b < lim) ∧ (∀ lv n xs, w.ownsRow base 66 3 lv n xs → wr.ownsRow base 66 3 lv n xs)) (fun _ i _ => N - (intOf i).toNat)
  case atStart =>
    refine ⟨0, k0, Nat.zero_le _, rfl, rfl, rfl, ?_, Kept.refl _ _, fun _ _ _ h => h⟩
    have e : mix S k0 0 = S := by funext i; exact mix_ge (by omega)
    rw [e]; exact HO0.out
  case round =>
    clear HO0
    obtain ⟨t, k, ht, rfl, rfl, hkk, hO, hk, hld⟩ := hrel
    have HLD : Hid (∀ lv n xs, w.ownsRow base 66 3 lv n xs → wr.ownsRow base 66 3 lv n xs) := hld
    clear hld
    have HKK : Hid (k = kS S k0 t) := hkk
    have kb : k ≤ 10000000000000 := by have := kS_le (k0 := k0) HS.out t ht; omega
    clear hkk
    by_cases hlt : t < N
    · have hmt : mix S k0 t t = S t := mix_ge (by omega)
      have hla := hO.la t hlt
      have hca := hO.ca t hlt
      rw [hmt] at hla hca
      obtain ⟨al, cl, eL, _⟩ := own_form hla
      obtain ⟨ac, cc, eC, _⟩ := own_form hca
      obtain ⟨g, rfl, hg1, hg2⟩ := own_addr hO.row (by omega)
      have c5 := own_cell hO.row (t * 8 + 5) (by omega) rfl
      have c6 := own_cell hO.row (t * 8 + 6) (by omega) rfl
      rw [sailCell_5, eL] at c5
      rw [sailCell_6, eC] at c6
      rw [eL] at hla
      rw [eC] at hca
      obtain ⟨u0, q0⟩ : ∃ v, wr.cell? ⟨g, t * 8, none⟩ = some v := ⟨_, own_cell hO.row (t * 8) (by omega) rfl⟩
      have f0 := hO.row.frozenAt (t * 8)
      have HO : Hid _ := hO
      have HEL : Hid (L t = .slice al (S t).la.n cl ∧ C t = .slice ac (S t).ca.n cc) := ⟨eL, eC⟩
      have HLA : Hid (wr.ownsRow base 77 2 (.slice al (S t).la.n cl) (S t).la.n (pairRow (S t).la)) := hla
      have HCA : Hid (wr.ownsRow base 80 2 (.slice ac (S t).ca.n cc) (S t).ca.n (pairRow (S t).ca)) := hca
      have HKP : Hid (Kept w wr (fun b => base ≤ b ∧ b < lim)) := hk
      have hsn := HS.out t hlt
      clear hO hla hca eL eC hk hmt
      go_wp2_with fail
      refine (markText_isZ _ _ (by omega) (by omega)).mono ?_
      rintro e w2 ⟨rfl, hb2⟩
      have HR2 : Hid _ := own_below hb2 (own_store HO.out.row (t * 8) (.int .i64 (k : Int)))
      have hkA : Kept wr w2 (fun b => b = g) := ((Kept.refl wr (fun b => b = g)).set (a := ⟨g, t * 8, none⟩) rfl (.int .i64 (k : Int))).trans (Kept.of_below hb2)
      have htx : ((k : Int) + 1).toNat = kS S k0 t + 1 := by have := HKK.out; omega
      rw [htx]
      clear htx q0 f0 c5 c6 hb2
      obtain ⟨u1, q1⟩ : ∃ v, w2.cell? ⟨g, t * 8 + 1, none⟩ = some v := ⟨_, own_cell HR2.out (t * 8 + 1) (by omega) rfl⟩
      have f1 := World.ownsRow.frozenAt HR2.out (t * 8 + 1)
      go_wp2_with fail
      refine (markText_isZ _ _ (by omega) (by omega)).mono ?_
      rintro e w3 ⟨rfl, hb3⟩
      have HR3 : Hid _ := own_below hb3 (own_store HR2.out (t * 8 + 1) (.string (markT (kS S k0 t + 1))))
      have hkB : Kept wr w3 (fun b => b = g) := (hkA.set (a := ⟨g, t * 8 + 1, none⟩) rfl (.string (markT (kS S k0 t + 1)))).trans (Kept.of_below hb3)
      have htx : ((k : Int) + 1 + 1).toNat = kS S k0 t + 2 := by have := HKK.out; omega
      rw [htx]
      clear htx q1 f1 hb3 hkA
      obtain ⟨u2, q2⟩ : ∃ v, w3.cell? ⟨g, t * 8 + 2, none⟩ = some v := ⟨_, own_cell HR3.out (t * 8 + 2) (by omega) rfl⟩
      obtain ⟨u3, q3⟩ : ∃ v, w3.cell? ⟨g, t * 8 + 3, none⟩ = some v := ⟨_, own_cell HR3.out (t * 8 + 3) (by omega) rfl⟩
      obtain ⟨u4, q4⟩ : ∃ v, w3.cell? ⟨g, t * 8 + 4, none⟩ = some v := ⟨_, own_cell HR3.out (t * 8 + 4) (by omega) rfl⟩
      have q5 : w3.cell? ⟨g, t * 8 + 5, none⟩ = some (.slice al (S t).la.n cl) := by
        rw [own_cell HR3.out (t * 8 + 5) (by omega) rfl, if_neg (by omega), if_neg (by omega), sailCell_5, HEL.out.1]
      have f2 := World.ownsRow.frozenAt HR3.out (t * 8 + 2)
      have f3 := World.ownsRow.frozenAt HR3.out (t * 8 + 3)
      have f4 := World.ownsRow.frozenAt HR3.out (t * 8 + 4)
      go_wp2_with fail
      have HR4 : Hid _ := own_store (own_store (own_store HR3.out (t * 8 + 2) (.string (markT (kS S k0 t + 2)))) (t * 8 + 3) (.int .i64 ((k : Int) + 1 + 1 + 1))) (t * 8 + 4) (.int .i64 ((k : Int) + 1 + 1 + 1 + 1))
      have hkC : Kept wr (((w3.setCell ⟨g, t * 8 + 2, none⟩ (.string (markT (kS S k0 t + 2)))).setCell ⟨g, t * 8 + 3, none⟩ (.int .i64 ((k : Int) + 1 + 1 + 1))).setCell ⟨g, t * 8 + 4, none⟩ (.int .i64 ((k : Int) + 1 + 1 + 1 + 1))) (fun b => b = g) := ((hkB.set (a := ⟨g, t * 8 + 2, none⟩) rfl _).set (a := ⟨g, t * 8 + 3, none⟩) rfl _).set (a := ⟨g, t * 8 + 4, none⟩) rfl _
      clear q2 q3 q4 q5 f2 f3 f4 hkB
      generalize ((w3.setCell ⟨g, t * 8 + 2, none⟩ (.string (markT (kS S k0 t + 2)))).setCell ⟨g, t * 8 + 3, none⟩ (.int .i64 ((k : Int) + 1 + 1 + 1))).setCell ⟨g, t * 8 + 4, none⟩ (.int .i64 ((k : Int) + 1 + 1 + 1 + 1)) = W4 at HR4 hkC ⊢
      have rowg : ∀ b, (Value.slice (some ⟨g, 0, none⟩) N c).ownBlock = some b ↔ b = g := fun b => by simp [Value.ownBlock]; exact eq_comm
      have HL4 : Hid (W4.ownsRow base 77 2 (.slice al (S t).la.n cl) (S t).la.n (pairRow (S t).la)) := hkC.own HLA.out (fun b hb e => own_apart HO.out.row HLA.out (by decide) b ((rowg b).2 e) hb)
      refine (markLaneZ _ al cl base (kS S k0 t + 5) (S t).la _ (by have := HKK.out; omega) hsn.1 (by have := HKK.out; omega) HL4.out).mono ?_
      rintro e w5 ⟨rfl, hl5, hk5⟩
      have HR5 : Hid _ := hk5.own HR4.out (fun b hb e => own_apart HR4.out HL4.out (by decide) b hb e)
      have q6 : w5.cell? ⟨g, t * 8 + 6, none⟩ = some (.slice ac (S t).ca.n cc) := by
        rw [own_cell HR5.out (t * 8 + 6) (by omega) rfl, if_neg (by omega), if_neg (by omega), if_neg (by omega), if_neg (by omega), if_neg (by omega), sailCell_6, HEL.out.2]
      have HC5 : Hid (w5.ownsRow base 80 2 (.slice ac (S t).ca.n cc) (S t).ca.n (pairRow (S t).ca)) := hk5.own (hkC.own HCA.out (fun b hb e => own_apart HO.out.row HCA.out (by decide) b ((rowg b).2 e) hb)) (fun b hb e => own_apart HL4.out (hkC.own HCA.out (fun b hb e => own_apart HO.out.row HCA.out (by decide) b ((rowg b).2 e) hb)) (by decide) b e hb)
      have HL5 : Hid (w5.ownsRow base 77 2 (.slice al (S t).la.n cl) (S t).la.n (pairRow (markP (kS S k0 t + 5) (S t).la))) := hl5
      have HK5 : Hid (Kept W4 w5 (fun b => (Value.slice al (S t).la.n cl).ownBlock = some b)) := hk5
      clear hl5 hk5
      go_wp2_with fail
      refine (markCabinZ _ ac cc base (kS S k0 t + 5 + 2 * (S t).la.n) (S t).ca _ (by omega) hsn.2 (by have := HKK.out; omega) HC5.out).mono ?_
      rintro e w6 ⟨rfl, hc6, hk6⟩
      have HR6 : Hid _ := hk6.own HR5.out (fun b hb e => own_apart HR5.out HC5.out (by decide) b hb e)
      obtain ⟨u7, q7⟩ : ∃ v, w6.cell? ⟨g, t * 8 + 7, none⟩ = some v := ⟨_, own_cell HR6.out (t * 8 + 7) (by omega) rfl⟩
      have f7 := World.ownsRow.frozenAt HR6.out (t * 8 + 7)
      have HC6 : Hid (w6.ownsRow base 80 2 (.slice ac (S t).ca.n cc) (S t).ca.n (pairRow (markP (kS S k0 t + 5 + 2 * (S t).la.n) (S t).ca))) := hc6
      have HK6 : Hid (Kept w5 w6 (fun b => (Value.slice ac (S t).ca.n cc).ownBlock = some b)) := hk6
      have HKC : Hid (Kept wr W4 (fun b => b = g)) := hkC
      clear hc6 hk6 q6 hkC
      go_wp2
      go_roundw
      case rel =>
        have e0 := HKK.out
        have hkF : Kept w6 (w6.setCell ⟨g, t * 8 + 7, none⟩ (.int .i64 ((kS S k0 t + 5 + 2 * (S t).la.n + 2 * (S t).ca.n : Nat) : Int))) (fun b => b = g) := (Kept.refl w6 (fun b => b = g)).set (a := ⟨g, t * 8 + 7, none⟩) rfl _
        have apL : ∀ i, i < N → i ≠ t → ∀ b, (L i).ownBlock = some b → (L t).ownBlock ≠ some b := fun i hi hne b h1 h2 => by
          rcases Nat.lt_or_gt_of_ne hne with h | h
          · exact (HO.out.apart i t h hlt).1 b h1 h2
          · exact (HO.out.apart t i h hi).1 b h2 h1
        have apC : ∀ i, i < N → i ≠ t → ∀ b, (C i).ownBlock = some b → (C t).ownBlock ≠ some b := fun i hi hne b h1 h2 => by
          rcases Nat.lt_or_gt_of_ne hne with h | h
          · exact (HO.out.apart i t h hlt).2 b h1 h2
          · exact (HO.out.apart t i h hi).2 b h2 h1
        rw [HEL.out.1] at apL
        rw [HEL.out.2] at apC
        refine ⟨t + 1, kS S k0 (t + 1), by omega, by go_num, ?_, rfl, ⟨own_congr (own_store HR6.out (t * 8 + 7) _) (fun j hj => ?_), fun i hi => ?_, fun i hi => ?_, HO.out.apart⟩, ?_, fun lv n xs h => ?_⟩
        · congr 1
          show _ = ((kS S k0 t + (6 + 2 * (S t).la.n + 2 * (S t).ca.n) : Nat) : Int)
          (try unfold wrap64); omega
        · by_cases h7 : j = t * 8 + 7
          · subst h7; rw [if_pos rfl, sailCell_7, mix_lt (by omega)]; rfl
          rw [if_neg h7]
          by_cases h4 : j = t * 8 + 4
          · subst h4; rw [if_pos rfl, sailCell_4, mix_lt (by omega)]; show Value.int .i64 _ = Value.int .i64 ((kS S k0 t + 4 : Nat) : Int); congr 1; omega
          rw [if_neg h4]
          by_cases h3 : j = t * 8 + 3
          · subst h3; rw [if_pos rfl, sailCell_3, mix_lt (by omega)]; show Value.int .i64 _ = Value.int .i64 ((kS S k0 t + 3 : Nat) : Int); congr 1; omega
          rw [if_neg h3]
          by_cases h2 : j = t * 8 + 2
          · subst h2; rw [if_pos rfl, sailCell_2, mix_lt (by omega)]; rfl
          rw [if_neg h2]
          by_cases h1 : j = t * 8 + 1
          · subst h1; rw [if_pos rfl, sailCell_1, mix_lt (by omega)]; rfl
          rw [if_neg h1]
          by_cases h0 : j = t * 8
          · subst h0; rw [if_pos rfl, sailCell_0, mix_lt (by omega)]; show Value.int .i64 _ = Value.int .i64 ((kS S k0 t : Nat) : Int); rw [e0]
          rw [if_neg h0]
          by_cases h5 : j = t * 8 + 5
          · subst h5; rw [sailCell_5, sailCell_5]
          by_cases h6 : j = t * 8 + 6
          · subst h6; rw [sailCell_6, sailCell_6]
          have hne : j / 8 ≠ t := by omega
          have em : mix S k0 (t + 1) (j / 8) = mix S k0 t (j / 8) := by
            by_cases h : j / 8 < t
            · rw [mix_lt h, mix_lt (by omega)]
            · rw [mix_ge h, mix_ge (by omega)]
          unfold sailCell
          rw [em]
        · by_cases e : i = t
          · subst e
            rw [mix_lt (by omega), HEL.out.1]
            have a6 := HK6.out.own HL5.out (fun b hb e => own_apart HL5.out HC5.out (by decide) b hb e)
            exact hkF.own a6 (fun b hb e => own_apart HR6.out a6 (by decide) b ((rowg b).2 e) hb)
          · have em : mix S k0 (t + 1) i = mix S k0 t i := by
              by_cases h : i < t
              · rw [mix_lt h, mix_lt (by omega)]
              · rw [mix_ge h, mix_ge (by omega)]
            rw [em]
            have a1 := HO.out.la i hi
            have a4 := HKC.out.own a1 (fun b hb e => own_apart HO.out.row a1 (by decide) b ((rowg b).2 e) hb)
            have a5 := HK5.out.own a4 (fun b hb e => apL i hi ‹_› b hb e)
            have a6 := HK6.out.own a5 (fun b hb e => own_apart a5 HC5.out (by decide) b hb e)
            exact hkF.own a6 (fun b hb e => own_apart HR6.out a6 (by decide) b ((rowg b).2 e) hb)
        · by_cases e : i = t
          · subst e
            rw [mix_lt (by omega), HEL.out.2]
            exact hkF.own HC6.out (fun b hb e => own_apart HR6.out HC6.out (by decide) b ((rowg b).2 e) hb)
          · have em : mix S k0 (t + 1) i = mix S k0 t i := by
              by_cases h : i < t
              · rw [mix_lt h, mix_lt (by omega)]
              · rw [mix_ge h, mix_ge (by omega)]
            rw [em]
            have a1 := HO.out.ca i hi
            have a4 := HKC.out.own a1 (fun b hb e => own_apart HO.out.row a1 (by decide) b ((rowg b).2 e) hb)
            have a5 := HK5.out.own a4 (fun b hb e => own_apart HL4.out a4 (by decide) b e hb)
            have a6 := HK6.out.own a5 (fun b hb e => apC i hi ‹_› b hb e)
            exact hkF.own a6 (fun b hb e => own_apart HR6.out a6 (by decide) b ((rowg b).2 e) hb)
        · exact HKP.out.trans ((HKC.out.mono (fun b e => by have e : b = g := e; have := HLIM.out.1 g rfl; show base ≤ b ∧ b < lim; omega)).trans ((HK5.out.mono (fun b e => ⟨(HL4.out.lt b e).1, (HLIM.out.2 t hlt).1 b (by rw [HEL.out.1]; exact e)⟩)).trans ((HK6.out.mono (fun b e => ⟨(HC5.out.lt b e).1, (HLIM.out.2 t hlt).2 b (by rw [HEL.out.2]; exact e)⟩)).trans (hkF.mono (fun b e => by have e : b = g := e; have := HLIM.out.1 g rfl; show base ≤ b ∧ b < lim; omega)))))
        · have a1 := HLD.out lv n xs h
          have a4 := HKC.out.own a1 (fun b hb e => own_apart HO.out.row a1 (by decide) b ((rowg b).2 e) hb)
          have a5 := HK5.out.own a4 (fun b hb e => own_apart HL4.out a4 (by decide) b e hb)
          have a6 := HK6.out.own a5 (fun b hb e => own_apart HC5.out a5 (by decide) b e hb)
          exact hkF.own a6 (fun b hb e => own_apart HR6.out a6 (by decide) b ((rowg b).2 e) hb)
      case measure => simp [intOf]; omega
    · obtain rfl : t = N := by omega
      have HO : Hid _ := hO
      clear hO
      go_wp2
      go_ret
      refine ⟨by rw [HKK.out]; rfl, ?_, hk, HLD.out⟩
      have h := HO.out
      refine ⟨own_congr h.row (fun j hj => ?_), fun i hi => ?_, fun i hi => ?_, h.apart⟩
      · unfold sailCell; rw [mix_lt (show j / 8 < t by omega)]
      · have := h.la i hi; rw [mix_lt hi] at this; exact this
      · have := h.ca i hi; rw [mix_lt hi] at this; exact this

set_option maxHeartbeats 6400000 in
set_option maxRecDepth 100000 in
theorem heldSails_yes (ao : Option Addr) (N c k0 : Nat) (S : Nat → Sail) (w : World) (hN : N ≤ 1048576) (h1 : k0 ≤ 1048576) (hs : ∀ i, i < N → (S i).la.n ≤ 1048576 ∧ (S i).ca.n ≤ 1048576) (hz : SailsAt w ao N (mS S k0)) :
    Calls Try.prog 28 #[.slice ao N c, .int .i64 (k0 : Int)] w fun e w' => e = .returned (.int .i64 ((kS S k0 N : Nat) : Int)) ∧ Below w.heap.size w w' := by
  have HS : Hid (∀ i, i < N → (S i).la.n ≤ 1048576 ∧ (S i).ca.n ≤ 1048576) := hs
  have HZ : Hid (SailsAt w ao N (mS S k0)) := hz
  clear hs hz
  go_enter Try.func28, Try.ntmps28
  go_wp2
  go_loopw [1, 5] (fun q i wr => ∃ (t k : Nat), t ≤ N ∧ i = .int .i64 t ∧ q = .int .i64 k ∧ k = kS S k0 t ∧ Below w.heap.size w wr) (fun _ i _ => N - (intOf i).toNat)
  case atStart => exact ⟨0, k0, Nat.zero_le _, rfl, rfl, rfl, Below.refl _ _⟩
  case round =>
    obtain ⟨t, k, ht, rfl, rfl, hkk, hbel⟩ := hrel
    have HKK : Hid (k = kS S k0 t) := hkk
    have kb : k ≤ 10000000000000 := by have := kS_le (k0 := k0) HS.out t ht; omega
    clear hkk
    by_cases hlt : t < N
    · obtain ⟨b, off, al, cl, ac, cc, rfl, h0, h1, h2, h3, h4, h5, h6, h7, h8, h9, _, _⟩ := HZ.out t hlt
      have hsn := HS.out t hlt
      have hb := World.block_lt_of_cell? w _ h1
      have i1 : (0 : Int) ≤ (t : Int) := by omega
      have i2 : (t : Int) < (N : Int) := by omega
      obtain ⟨s1, hs1⟩ : ∃ s, s = markT ((k : Int) + 1).toNat := ⟨_, rfl⟩
      obtain ⟨s2, hs2⟩ : ∃ s, s = markT ((k : Int) + 1 + 1).toNat := ⟨_, rfl⟩
      obtain ⟨x, hx⟩ : ∃ x : Nat, x = k + 5 + 2 * (S t).la.n + 2 * (S t).ca.n := ⟨_, rfl⟩
      have HS1 : Hid (s1 = markT ((k : Int) + 1).toNat) := hs1
      have HS2 : Hid (s2 = markT ((k : Int) + 1 + 1).toNat) := hs2
      have HX : Hid (x = k + 5 + 2 * (S t).la.n + 2 * (S t).ca.n) := hx
      have e0 := HKK.out
      have HC : Hid (∀ w', Below w.heap.size w w' → w'.cell? ⟨b, off + t * 8, none⟩ = some (.int .i64 (k : Int)) ∧ w'.cell? ⟨b, off + t * 8 + 1, none⟩ = some (.string s1) ∧ w'.cell? ⟨b, off + t * 8 + 2, none⟩ = some (.string s2) ∧ w'.cell? ⟨b, off + t * 8 + 3, none⟩ = some (.int .i64 ((k : Int) + 1 + 1 + 1)) ∧ w'.cell? ⟨b, off + t * 8 + 4, none⟩ = some (.int .i64 ((k : Int) + 1 + 1 + 1 + 1)) ∧
          w'.cell? ⟨b, off + t * 8 + 5, none⟩ = some (.slice al (S t).la.n cl) ∧ w'.cell? ⟨b, off + t * 8 + 6, none⟩ = some (.slice ac (S t).ca.n cc) ∧ w'.cell? ⟨b, off + t * 8 + 7, none⟩ = some (.int .i64 (x : Int))) := fun w' h => by
        refine ⟨(h.cell (p := ⟨b, off + t * 8, none⟩) hb).trans (h0.trans ?_), (h.cell (p := ⟨b, off + t * 8 + 1, none⟩) hb).trans (h1.trans ?_), (h.cell (p := ⟨b, off + t * 8 + 2, none⟩) hb).trans (h2.trans ?_), (h.cell (p := ⟨b, off + t * 8 + 3, none⟩) hb).trans (h3.trans ?_), (h.cell (p := ⟨b, off + t * 8 + 4, none⟩) hb).trans (h4.trans ?_), (h.cell (p := ⟨b, off + t * 8 + 5, none⟩) hb).trans h5, (h.cell (p := ⟨b, off + t * 8 + 6, none⟩) hb).trans h6, (h.cell (p := ⟨b, off + t * 8 + 7, none⟩) hb).trans (h7.trans ?_)⟩
        · rw [e0]; rfl
        · rw [hs1, show ((k : Int) + 1).toNat = kS S k0 t + 1 by omega]; rfl
        · rw [hs2, show ((k : Int) + 1 + 1).toNat = kS S k0 t + 2 by omega]; rfl
        · show some (Value.int .i64 ((kS S k0 t + 3 : Nat) : Int)) = _; congr 2; omega
        · show some (Value.int .i64 ((kS S k0 t + 4 : Nat) : Int)) = _; congr 2; omega
        · show some (Value.int .i64 ((kS S k0 t + 5 + 2 * (S t).la.n + 2 * (S t).ca.n : Nat) : Int)) = _; rw [hx, e0]
      have HP1 : Hid (PairsAt w al (markP (kS S k0 t + 5) (S t).la)) := h8
      have HP2 : Hid (PairsAt w ac (markP (kS S k0 t + 5 + 2 * (S t).la.n) (S t).ca)) := h9
      clear h0 h1 h2 h3 h4 h5 h6 h7 h8 h9 hs1 hs2 hx e0
      obtain ⟨c0, c1, _, _, _, _, _, _⟩ := HC.out wr hbel
      have n0 : ((k : Int) != (k : Int)) = false := by simp
      go_upto_region 7 with fail
      clear c0
      go_cut [1, 5, 28] (fun q i v wx => q = .int .i64 ((k : Int) + 1) ∧ i = .int .i64 t ∧ v = .bool false ∧ Below w.heap.size w wx)
      case first =>
        go_region_held3 (fun w' => w'.cell? ⟨b, off + t * 8 + 1, none⟩ = some (.string s1))
          ((first | exact c1 | exact (HC.out _ (after hbel.drew hb3)).2.1))
          (first | (go_at_call 23; refine (markText_isZ _ _ (by omega) (by omega)).mono ?_; rintro e w3 ⟨rfl, hb3⟩; rw [← HS1.out]))
        all_goals
          go_wp2
          go_meet
          exact ⟨rfl, rfl, by simp, after hbel.drew hb3⟩
      case rest =>
        obtain ⟨rfl, rfl, rfl, hb1⟩ := hcut
        obtain ⟨w1, ew1⟩ : ∃ y, y = wc := ⟨_, rfl⟩
        subst ew1
        obtain ⟨_, _, c2, _, _, _, _, _⟩ := HC.out w1 hb1
        go_upto_region 10 with fail
        go_cut [1, 5, 38] (fun q i v wx => q = .int .i64 ((k : Int) + 1 + 1) ∧ i = .int .i64 t ∧ v = .bool false ∧ Below w.heap.size w wx)
        case first =>
          go_region_held3 (fun w' => w'.cell? ⟨b, off + t * 8 + 2, none⟩ = some (.string s2))
            ((first | exact c2 | exact (HC.out _ (after hb1.drew hb4)).2.2.1))
            (first | (go_at_call 23; refine (markText_isZ _ _ (by omega) (by omega)).mono ?_; rintro e w4 ⟨rfl, hb4⟩; rw [← HS2.out]))
          all_goals
            go_wp2
            go_meet
            exact ⟨rfl, rfl, by simp, after hb1.drew hb4⟩
        case rest =>
          obtain ⟨rfl, rfl, rfl, hb2⟩ := hcut
          obtain ⟨w2, ew2⟩ : ∃ y, y = wc := ⟨_, rfl⟩
          subst ew2
          clear c1 c2
          obtain ⟨_, _, _, c3, c4, c5, c6, c7⟩ := HC.out w2 hb2
          have hx0 : decide (((kS S k0 t + 5 + 2 * (S t).la.n : Nat) : Int) < 0) = false := by simp; omega
          have hx1 : decide (((kS S k0 t + 5 + 2 * (S t).la.n + 2 * (S t).ca.n : Nat) : Int) < 0) = false := by simp; omega
          have hx2 : (((x : Nat) : Int) != ((kS S k0 t + 5 + 2 * (S t).la.n + 2 * (S t).ca.n : Nat) : Int)) = false := by rw [HX.out, HKK.out]; simp
          go_wp2_with (first | (go_at_call 48; refine (heldLaneZ _ al cl (kS S k0 t + 5) (S t).la _ (by have := HKK.out; omega) hsn.1 (by have := HKK.out; omega) (HP1.out.below hb2)).mono ?_; rintro e w' ⟨rfl, hw'⟩; have hw' := hw'.symm; subst hw') | (go_at_call 49; refine (heldCabinZ _ ac cc (kS S k0 t + 5 + 2 * (S t).la.n) (S t).ca _ (by omega) hsn.2 (by have := HKK.out; omega) (HP2.out.below hb2)).mono ?_; rintro e w' ⟨rfl, hw'⟩; have hw' := hw'.symm; subst hw'))
          go_roundw
          case rel =>
            refine ⟨t + 1, kS S k0 (t + 1), by omega, by go_num, ?_, rfl, hb2⟩
            congr 1
            show _ = ((kS S k0 t + (6 + 2 * (S t).la.n + 2 * (S t).ca.n) : Nat) : Int)
            have e0 := HKK.out
            (try unfold wrap64); omega
          case measure => simp [intOf]; omega
    · obtain rfl : t = N := by omega
      go_wp2
      go_ret
      exact ⟨by rw [HKK.out]; rfl, hbel⟩

end Go.Proofs.Ytlnadbnoemlpeaa
