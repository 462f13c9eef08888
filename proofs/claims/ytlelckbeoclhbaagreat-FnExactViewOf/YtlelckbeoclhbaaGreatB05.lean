/-
  OWN TEXT: MarkMRm, MarkMRow, MarkSs, MarkBh.
-/
import Derived.Deep.RegionHeld3
import Derived.Test.YtlelckbeoclhbaaGreatB02
import Derived.Test.YtlelckbeoclhbaaGreatB04
import Derived.Test.YtlelckbeoclhbaaGreatB03
set_option maxHeartbeats 12800000
set_option maxRecDepth 100000
namespace Go.Proofs.YtlelckbeoclhbaaGreat
open Go.RowKit
theorem markText_isI (z : Int) (w : World) (h0 : 0 ≤ z) (hk : z ≤ 1000000000000000) :
    Calls Tryz.prog 74 #[.int .i64 z] w fun e w' => e = .returned (.string (markT z.toNat)) ∧ Below w.heap.size w w' := by
  obtain ⟨q, rfl⟩ := Int.eq_ofNat_of_zero_le h0
  exact markText_is q w (by omega)
def rowMark (k0 : Nat) (i : Nat) : MRow := ⟨(k0 : Int) + 5 * i, markT (k0 + 5 * i + 1), (k0 : Int) + 5 * i + 2, (k0 : Int) + 5 * i + 3, (k0 : Int) + 5 * i + 4⟩
theorem markRowS_own (ao : Option Addr) (n c base k0 : Nat) (S : Nat → MRow) (w : World) (hn : n ≤ 2097152) (h1 : k0 ≤ 100000000000000) (ho : w.ownsRow base 116 5 (.slice ao n c) n (rowList S n)) :
    Calls Tryz.prog 80 #[.slice ao n c, .int .i64 k0] w fun e w' => e = .returned (.int .i64 ((k0 + 5 * n : Nat) : Int)) ∧ w'.ownsRow base 116 5 (.slice ao n c) n (rowList (rowMark k0) n) ∧ Kept w w' (fun b => (Value.slice ao n c).ownBlock = some b) := by
  go_enter Tryz.func80, Tryz.ntmps80
  go_wp2
  go_loopw [1, 5] (fun q i wr => ∃ (t k : Nat), t ≤ n ∧ i = .int .i64 t ∧ q = .int .i64 k ∧ k = k0 + 5 * t ∧ wr.ownsRow base 116 5 (.slice ao n c) n ((List.range (n * 5)).map (rowCell (fun i => if i < t then rowMark k0 i else S i))) ∧ Kept w wr (fun b => (Value.slice ao n c).ownBlock = some b)) (fun _ i _ => n - (intOf i).toNat)
  case atStart => exact ⟨0, k0, Nat.zero_le _, rfl, rfl, by omega, by simpa [rowList] using ho, Kept.refl _ _⟩
  case round =>
    obtain ⟨t, k, ht, rfl, rfl, hkk, hown, hk⟩ := hrel
    have HKK : Hid (k = k0 + 5 * t) := hkk
    have kb : k ≤ 200000000000000 := by omega
    clear hkk
    by_cases hlt : t < n
    · obtain ⟨g, rfl, hg1, hg2⟩ := own_addr hown (by omega)
      obtain ⟨v0, hc0⟩ : ∃ v, wr.cell? ⟨g, t * 5, none⟩ = some v := ⟨_, own_cell hown (t * 5) (by omega) rfl⟩
      have hf0 := hown.frozenAt (t * 5)
      go_wp2_with fail
      refine (markText_isI _ _ (by omega) (by omega)).mono ?_
      rintro e w2 ⟨rfl, hb2⟩
      have hown2 := own_below hb2 (own_store hown (t * 5) (.int .i64 k))
      have hk2 := (hk.set (a := ⟨g, t * 5, none⟩) rfl (.int .i64 k)).trans (Kept.of_below hb2)
      clear hc0 hf0 hb2 hown hk
      obtain ⟨v1, hc1⟩ : ∃ v, w2.cell? ⟨g, t * 5 + 1, none⟩ = some v := ⟨_, own_cell hown2 (t * 5 + 1) (by omega) rfl⟩
      have hf1 := hown2.frozenAt (t * 5 + 1)
      obtain ⟨v2, hc2⟩ : ∃ v, w2.cell? ⟨g, t * 5 + 2, none⟩ = some v := ⟨_, own_cell hown2 (t * 5 + 2) (by omega) rfl⟩
      have hf2 := hown2.frozenAt (t * 5 + 2)
      obtain ⟨v3, hc3⟩ : ∃ v, w2.cell? ⟨g, t * 5 + 3, none⟩ = some v := ⟨_, own_cell hown2 (t * 5 + 3) (by omega) rfl⟩
      have hf3 := hown2.frozenAt (t * 5 + 3)
      obtain ⟨v4, hc4⟩ : ∃ v, w2.cell? ⟨g, t * 5 + 4, none⟩ = some v := ⟨_, own_cell hown2 (t * 5 + 4) (by omega) rfl⟩
      have hf4 := hown2.frozenAt (t * 5 + 4)
      have htx : ((k : Int) + 1).toNat = k0 + 5 * t + 1 := by have := HKK.out; omega
      rw [htx]
      clear htx
      go_wp2
      go_roundw
      case rel =>
        refine ⟨t + 1, k + 5, by omega, by go_num, by go_num, by have := HKK.out; omega, own_congr (own_store (own_store (own_store (own_store hown2 (t * 5 + 1) _) (t * 5 + 2) _) (t * 5 + 3) _) (t * 5 + 4) _) (fun j hj => ?_), ((((hk2.set (a := ⟨g, t * 5 + 1, none⟩) rfl _).set (a := ⟨g, t * 5 + 2, none⟩) rfl _).set (a := ⟨g, t * 5 + 3, none⟩) rfl _).set (a := ⟨g, t * 5 + 4, none⟩) rfl _)⟩
        have e0 : (k : Int) = (k0 : Int) + 5 * t := by have := HKK.out; omega
        have key : ∀ (S' : Nat → MRow), (∀ i, i ≠ t → S' i = (if i < t then rowMark k0 i else S i)) → (S' t = rowMark k0 t) → rowCell S' j = rowCell (fun i => if i < t + 1 then rowMark k0 i else S i) j := by
          intro S' h1 h2
          unfold rowCell
          have : S' (j / 5) = (if j / 5 < t + 1 then rowMark k0 (j / 5) else S (j / 5)) := by
            by_cases e : j / 5 = t
            · rw [e, h2, if_pos (by omega)]
            · rw [h1 _ e]
              by_cases e2 : j / 5 < t
              · rw [if_pos e2, if_pos (by omega)]
              · rw [if_neg e2, if_neg (by omega)]
          rw [this]
        rw [← key (fun i => if i = t then rowMark k0 t else if i < t then rowMark k0 i else S i) (fun i h => if_neg h) (if_pos rfl)]
        by_cases h4 : j = t * 5 + 4
        · subst h4; rw [if_pos rfl, rowCell_4, if_pos rfl]; simp [rowMark]; try omega
        rw [if_neg h4]
        by_cases h3 : j = t * 5 + 3
        · subst h3; rw [if_pos rfl, rowCell_3, if_pos rfl]; simp [rowMark]; try omega
        rw [if_neg h3]
        by_cases h2 : j = t * 5 + 2
        · subst h2; rw [if_pos rfl, rowCell_2, if_pos rfl]; simp [rowMark]; try omega
        rw [if_neg h2]
        by_cases h1 : j = t * 5 + 1
        · subst h1; rw [if_pos rfl, rowCell_1, if_pos rfl]; simp [rowMark]; try omega
        rw [if_neg h1]
        by_cases h0 : j = t * 5
        · subst h0; rw [if_pos rfl, rowCell_0, if_pos rfl]; simp [rowMark]; try omega
        rw [if_neg h0]
        have hne : j / 5 ≠ t := by omega
        unfold rowCell
        simp only [if_neg hne]
      case measure => simp [intOf]; omega
    · obtain rfl : t = n := by omega
      go_wp2
      go_ret
      refine ⟨by rw [HKK.out]; rfl, ?_, hk⟩
      rw [rowList_congr (S := rowMark k0) (S' := fun i => if i < t then rowMark k0 i else S i) (fun i hi => (if_pos hi).symm)]
      exact hown
end Go.Proofs.YtlelckbeoclhbaaGreat

namespace Go.Proofs.YtlelckbeoclhbaaGreat
open Go.RowKit
theorem heldRowS_yes (ao : Option Addr) (n c k0 : Nat) (w : World) (hn : n ≤ 2097152) (h1 : k0 ≤ 100000000000000) (hz : MRowsAt w ao n (rowMark k0)) :
    Calls Tryz.prog 81 #[.slice ao n c, .int .i64 k0] w fun e w' => e = .returned (.int .i64 ((k0 + 5 * n : Nat) : Int)) ∧ Below w.heap.size w w' := by
  have HZ : Hid (MRowsAt w ao n (rowMark k0)) := hz
  clear hz
  go_enter Tryz.func81, Tryz.ntmps81
  go_wp2
  go_loopw [1, 5] (fun q i wr => ∃ (t k : Nat), t ≤ n ∧ i = .int .i64 t ∧ q = .int .i64 k ∧ k = k0 + 5 * t ∧ Below w.heap.size w wr) (fun _ i _ => n - (intOf i).toNat)
  case atStart => exact ⟨0, k0, Nat.zero_le _, rfl, rfl, by omega, Below.refl _ _⟩
  case round =>
    obtain ⟨t, k, ht, rfl, rfl, hkk, hbel⟩ := hrel
    have HKK : Hid (k = k0 + 5 * t) := hkk
    have kb : k ≤ 200000000000000 := by omega
    clear hkk
    by_cases hlt : t < n
    · obtain ⟨b, off, rfl, c0, c1, c2, c3, c4⟩ := HZ.out t hlt
      simp only [rowMark] at c0 c1 c2 c3 c4
      have e0 : (k0 : Int) + 5 * t = (k : Int) := by have := HKK.out; omega
      have e1 : k0 + 5 * t + 1 = ((k : Int) + 1).toNat := by have := HKK.out; omega
      rw [e0] at c0 c2 c3 c4
      rw [e1] at c1
      have hb := World.block_lt_of_cell? w _ c0
      have i1 : (0 : Int) ≤ (t : Int) := by omega
      have i2 : (t : Int) < (n : Int) := by omega
      obtain ⟨s, hsd⟩ : ∃ s, s = markT ((k : Int) + 1).toNat := ⟨_, rfl⟩
      rw [← hsd] at c1
      have HSD : Hid (s = markT ((k : Int) + 1).toNat) := hsd
      have HC : Hid (∀ w', Below w.heap.size w w' → w'.cell? ⟨b, off + t * 5, none⟩ = some (.int .i64 k) ∧ w'.cell? ⟨b, off + t * 5 + 1, none⟩ = some (.string s) ∧ w'.cell? ⟨b, off + t * 5 + 2, none⟩ = some (.int .i64 ((k : Int) + 2)) ∧ w'.cell? ⟨b, off + t * 5 + 3, none⟩ = some (.int .i64 ((k : Int) + 3)) ∧ w'.cell? ⟨b, off + t * 5 + 4, none⟩ = some (.int .i64 ((k : Int) + 4))) := fun w' h =>
        ⟨(h.cell (p := ⟨b, off + t * 5, none⟩) hb).trans c0, (h.cell (p := ⟨b, off + t * 5 + 1, none⟩) hb).trans c1, (h.cell (p := ⟨b, off + t * 5 + 2, none⟩) hb).trans c2, (h.cell (p := ⟨b, off + t * 5 + 3, none⟩) hb).trans c3, (h.cell (p := ⟨b, off + t * 5 + 4, none⟩) hb).trans c4⟩
      clear c0 c1 c2 c3 c4 e0 e1 hsd
      obtain ⟨c0, c1, _, _, _⟩ := HC.out wr hbel
      go_wp2
      clear c0
      go_region_held3 (fun w' => w'.cell? ⟨b, off + t * 5 + 1, none⟩ = some (.string s))
        ((first | exact c1 | exact (HC.out _ (after hbel.drew hb3)).2.1))
        (first | (go_at_call 74; refine (markText_isI _ _ (by omega) (by omega)).mono ?_; rintro e w3 ⟨rfl, hb3⟩; rw [← HSD.out]))
      all_goals
        have hbw := after hbel.drew hb3
        obtain ⟨_, _, c2, c3, c4⟩ := HC.out w3 hbw
        have f2 : (((k : Int) + 2) != (k : Int) + 1 + 1) = false := by simp; omega
        have f3 : (((k : Int) + 3) != (k : Int) + 1 + 1 + 1) = false := by simp; omega
        have f4 : (((k : Int) + 4) != (k : Int) + 1 + 1 + 1 + 1) = false := by simp; omega
        go_wp2
        go_roundw
        case rel => exact ⟨t + 1, k + 5, by omega, by go_num, by go_num, by have := HKK.out; omega, hbw⟩
        case measure => simp [intOf]; omega
    · obtain rfl : t = n := by omega
      go_wp2
      go_ret
      exact ⟨by rw [HKK.out]; rfl, hbel⟩
end Go.Proofs.YtlelckbeoclhbaaGreat

namespace Go.Proofs.YtlelckbeoclhbaaGreat
open Go.RowKit
def kQ (q : Nat) (n : Nat → Nat) (k0 : Nat) : Nat → Nat
  | 0 => k0
  | i + 1 => kQ q n k0 i + q * n i
theorem kQ_le {q : Nat} {n : Nat → Nat} {k0 N B : Nat} (h : ∀ i, i < N → q * n i ≤ B) : ∀ i, i ≤ N → kQ q n k0 i ≤ k0 + i * B
  | 0, _ => by unfold kQ; omega
  | i + 1, hi => by
    have h1 := kQ_le (k0 := k0) h i (by omega)
    have h2 := h i (by omega)
    have h3 : (i + 1) * B = i * B + B := Nat.succ_mul i B
    unfold kQ
    omega
theorem kQ_fit {q : Nat} {n : Nat → Nat} {k0 N : Nat} (hq : q ≤ 5) (h : ∀ i, i < N → n i ≤ 1048576) (i : Nat) (hi : i ≤ N) : kQ q n k0 i ≤ k0 + i * 5242880 :=
  kQ_le (fun j hj => Nat.le_trans (Nat.mul_le_mul hq (h j hj)) (by decide)) i hi
theorem markRowZ (z : Int) (v : Value) (n base k0 : Nat) (F : Nat → MRow) (w : World) (hz : z = (k0 : Int)) (hn : n ≤ 1048576) (h1 : k0 ≤ 100000000000000) (ho : w.ownsRow base 116 5 v n (rowList F n)) :
    Calls Tryz.prog 80 #[v, .int .i64 z] w fun e w' => e = .returned (.int .i64 ((k0 + 5 * n : Nat) : Int)) ∧ w'.ownsRow base 116 5 v n (rowList (rowMark k0) n) ∧ Kept w w' (fun b => v.ownBlock = some b) := by
  subst hz
  obtain ⟨ao, c, rfl, _⟩ := own_form ho
  exact markRowS_own ao n c base k0 F w (by omega) h1 ho
theorem heldRowZ (z : Int) (ao : Option Addr) (n c k0 : Nat) (w : World) (hz : z = (k0 : Int)) (hn : n ≤ 1048576) (h1 : k0 ≤ 100000000000000) (h : MRowsAt w ao n (rowMark k0)) :
    Calls Tryz.prog 81 #[.slice ao n c, .int .i64 z] w fun e w' => e = .returned (.int .i64 ((k0 + 5 * n : Nat) : Int)) ∧ Below w.heap.size w w' := by
  subst hz
  exact heldRowS_yes ao n c k0 w (by omega) h1 h
theorem eqIntSS_same (ao bo : Option Addr) (N c d : Nat) (n : Nat → Nat) (F : Nat → Nat → Int) (w : World) (hN : N ≤ 1048576) (hn : ∀ i, i < N → n i ≤ 1048576) (hx : IntSS w ao N n F) (hy : IntSS w bo N n F) :
    Calls Tryz.prog 31 #[.slice ao N c, .slice bo N d] w fun e w' => e = .returned (.bool true) ∧ Below w.heap.size w w' := by
  have HX : Hid (IntSS w ao N n F) := hx
  have HY : Hid (IntSS w bo N n F) := hy
  have HN : Hid (∀ i, i < N → n i ≤ 1048576) := hn
  clear hx hy hn
  go_enter Tryz.func31, Tryz.ntmps31
  go_wp2
  go_loopw [5] (fun i wr => ∃ k : Nat, k ≤ N ∧ i = .int .i64 k ∧ Below w.heap.size w wr) (fun i _ => N - (intOf i).toNat)
  case atStart => exact ⟨0, Nat.zero_le _, rfl, Below.refl _ _⟩
  case round =>
    obtain ⟨k, hk, rfl, hb⟩ := hrel
    by_cases hlt : k < N
    · obtain ⟨b1, o1, a1, c1, rfl, h1, h2⟩ := HX.out k hlt
      obtain ⟨b2, o2, a2, c2, rfl, h3, h4⟩ := HY.out k hlt
      have q1 := (hb.cell (World.block_lt_of_cell? w _ h1)).trans h1
      have q2 := (hb.cell (World.block_lt_of_cell? w _ h3)).trans h3
      have HE : Hid (∀ w', Below w.heap.size w w' → Calls Tryz.prog 32 #[.slice a1 (n k) c1, .slice a2 (n k) c2] w' fun e w2 => e = .returned (.bool true) ∧ Below w'.heap.size w' w2) := fun w' h => (eqIntS_same a1 a2 (n k) c1 c2 (F k) w' (by have := HN.out k hlt; omega) (h2.below h) (h4.below h)).mono fun e w2 h5 => h5
      clear h1 h2 h3 h4
      have i1 : (k : Int) < (N : Int) := by omega
      have i0 : (0 : Int) ≤ (k : Int) := by omega
      have e1 : decide ((k : Int) < (N : Int)) = true := decide_eq_true i1
      go_upto_region 6 with fail
      go_region_held3 (fun w' => w'.cell? ⟨b1, o1 + k, none⟩ = some (.slice a1 (n k) c1) ∧ w'.cell? ⟨b2, o2 + k, none⟩ = some (.slice a2 (n k) c2))
        ((first | exact ⟨q1, q2⟩ | exact ⟨(hb5.cell (World.block_lt_of_cell? _ _ q1)).trans q1, (hb5.cell (World.block_lt_of_cell? _ _ q2)).trans q2⟩))
        (first | (go_at_call 32; refine Calls.mono (HE.out _ hb.drew) ?_; rintro e w5 ⟨rfl, hb5⟩))
      all_goals
        go_wp2
        go_roundw
        case rel => exact ⟨k + 1, by omega, by go_num, after hb.drew hb5⟩
        case measure => simp [intOf]; omega
    · obtain rfl : k = N := by omega
      go_wp2
      go_ret
      exact ⟨rfl, hb⟩
theorem markIntSS_own (z : Int) (ao : Option Addr) (N c base k0 : Nat) (n : Nat → Nat) (F : Nat → Nat → Int) (L : Nat → Value) (w : World) (hz : z = (k0 : Int)) (hN : N ≤ 1000) (h1 : k0 ≤ 1000000000000) (hn : ∀ i, i < N → n i ≤ 1048576) (ho : OwnSS w base 31 3 1 (.slice ao N c) N n (fun i => intList (F i) (n i)) L) :
    Calls Tryz.prog 39 #[.slice ao N c, .int .i64 z] w fun e w' => e = .returned (.int .i64 ((kQ 1 n k0 N : Nat) : Int)) ∧ OwnSS w' base 31 3 1 (.slice ao N c) N n (fun i => intList (fun j => ((kQ 1 n k0 i : Nat) : Int) + j) (n i)) L ∧ Kept w w' (SsB N L) := by
  subst hz
  have HN : Hid (∀ i, i < N → n i ≤ 1048576) := hn
  have HO : Hid (OwnSS w base 31 3 1 (.slice ao N c) N n (fun i => intList (F i) (n i)) L) := ho
  clear hn ho
  go_enter Tryz.func39, Tryz.ntmps39
  go_wp2
  go_loopw [1, 5] (fun y i wr => ∃ t k : Nat, t ≤ N ∧ i = .int .i64 t ∧ y = .int .i64 k ∧ k = kQ 1 n k0 t ∧ OwnSS wr base 31 3 1 (.slice ao N c) N n (fun i => intList (if i < t then (fun j => ((kQ 1 n k0 i : Nat) : Int) + j) else F i) (n i)) L ∧ Kept w wr (SsB N L)) (fun _ i _ => N - (intOf i).toNat)
  case atStart => exact ⟨0, k0, Nat.zero_le _, rfl, rfl, rfl, HO.out.congr (fun i hi => rfl) (fun i hi => by simp), Kept.refl _ _⟩
  case round =>
    clear HO
    obtain ⟨t, k, ht, rfl, rfl, hkk, hO, hk⟩ := hrel
    have kb : k ≤ 10000000000000 := by have := kQ_fit (q := 1) (k0 := k0) (by decide) HN.out t ht; omega
    by_cases hlt : t < N
    · obtain ⟨g, rfl, q1⟩ := hO.cellAt hlt
      have hot := hO.each t hlt
      have hot : wr.ownsRow base 3 1 (L t) (n t) (intList (F t) (n t)) := by simpa using hot
      obtain ⟨at1, ct, eL, _⟩ := own_form hot
      rw [eL] at q1 hot
      have HEL : Hid (L t = .slice at1 (n t) ct) := eL
      have HOT : Hid (wr.ownsRow base 3 1 (.slice at1 (n t) ct) (n t) (intList (F t) (n t))) := hot
      have HOO : Hid (OwnSS wr base 31 3 1 (.slice (some ⟨g, 0, none⟩) N c) N n (fun i => intList (if i < t then (fun j => ((kQ 1 n k0 i : Nat) : Int) + j) else F i) (n i)) L) := hO
      have HKK : Hid (k = kQ 1 n k0 t) := hkk
      have i1 : (t : Int) < (N : Int) := by omega
      clear hO hot eL hkk
      go_wp2_with fail
      refine (markIntZ _ (.slice at1 (n t) ct) (n t) base (kQ 1 n k0 t) (F t) _ (by rw [HKK.out]) (HN.out t hlt) (by have := HKK.out; omega) HOT.out).mono ?_
      rintro e w2 ⟨rfl, ho2, hk2⟩
      have ho2' : w2.ownsRow base 3 1 (L t) (n t) (intList (fun j => ((kQ 1 n k0 t : Nat) : Int) + j) (n t)) := by rw [HEL.out]; exact ho2
      have hk2' : Kept wr w2 (fun b => (L t).ownBlock = some b) := by rw [HEL.out]; exact hk2
      have HO2 : Hid (OwnSS w2 base 31 3 1 (.slice (some ⟨g, 0, none⟩) N c) N n (fun i => intList (if i < t + 1 then (fun j => ((kQ 1 n k0 i : Nat) : Int) + j) else F i) (n i)) L) := by
        refine ⟨hk2'.own HOO.out.row (fun b e1 e2 => own_apart HOO.out.row (HOO.out.each t hlt) (by decide) b e1 e2), fun i hi => ?_, HOO.out.apart⟩
        by_cases e : i = t
        · subst e; rw [if_pos (by omega)]; exact ho2'
        · have h5 := hk2'.own (HOO.out.each i hi) (fun b e1 e2 => HOO.out.ne hi hlt e b e1 e2)
          by_cases h6 : i < t
          · rw [if_pos h6] at h5; rw [if_pos (by omega)]; exact h5
          · rw [if_neg h6] at h5; rw [if_neg (by omega)]; exact h5
      have hk3 : Kept w w2 (SsB N L) := hk.trans (hk2'.mono (fun b e => ⟨t, hlt, e⟩))
      clear ho2 hk2 ho2' hk2' hk HOT HOO
      go_wp2
      go_roundw
      case rel => exact ⟨t + 1, kQ 1 n k0 (t + 1), by omega, by go_num, by (show Value.int .i64 _ = Value.int .i64 ((kQ 1 n k0 t + 1 * n t : Nat) : Int)); (first | rfl | (congr 1; omega)), rfl, HO2.out, hk3⟩
      case measure => simp [intOf]; omega
    · obtain rfl : t = N := by omega
      go_wp2
      go_ret
      exact ⟨by rw [hkk]; rfl, hO.congr (fun i hi => rfl) (fun i hi => by rw [if_pos hi]), hk⟩
theorem heldIntSS_yes (z : Int) (ao : Option Addr) (N c k0 : Nat) (n : Nat → Nat) (w : World) (hz : z = (k0 : Int)) (hN : N ≤ 1000) (h1 : k0 ≤ 1000000000000) (hn : ∀ i, i < N → n i ≤ 1048576) (hx : IntSS w ao N n (fun i => (fun j => ((kQ 1 n k0 i : Nat) : Int) + j))) :
    Calls Tryz.prog 43 #[.slice ao N c, .int .i64 z] w fun e w' => e = .returned (.int .i64 ((kQ 1 n k0 N : Nat) : Int)) ∧ Below w.heap.size w w' := by
  subst hz
  have HN : Hid (∀ i, i < N → n i ≤ 1048576) := hn
  have HX : Hid (IntSS w ao N n (fun i => (fun j => ((kQ 1 n k0 i : Nat) : Int) + j))) := hx
  clear hn hx
  go_enter Tryz.func43, Tryz.ntmps43
  go_wp2
  go_loopw [1, 5] (fun y i wr => ∃ t k : Nat, t ≤ N ∧ i = .int .i64 t ∧ y = .int .i64 k ∧ k = kQ 1 n k0 t ∧ Below w.heap.size w wr) (fun _ i _ => N - (intOf i).toNat)
  case atStart => exact ⟨0, k0, Nat.zero_le _, rfl, rfl, rfl, Below.refl _ _⟩
  case round =>
    obtain ⟨t, k, ht, rfl, rfl, hkk, hb⟩ := hrel
    have kb : k ≤ 10000000000000 := by have := kQ_fit (q := 1) (k0 := k0) (by decide) HN.out t ht; omega
    by_cases hlt : t < N
    · obtain ⟨b1, o1, a1, c1, rfl, h1, h2⟩ := HX.out t hlt
      have q1 := (hb.cell (World.block_lt_of_cell? w _ h1)).trans h1
      have HR : Hid (IntsAt wr a1 (n t) (fun j => ((kQ 1 n k0 t : Nat) : Int) + j)) := h2.below hb
      have HKK : Hid (k = kQ 1 n k0 t) := hkk
      have i1 : (t : Int) < (N : Int) := by omega
      clear h1 h2 hkk
      go_wp2_with fail
      refine (heldIntZ _ a1 (n t) c1 (kQ 1 n k0 t) _ (by rw [HKK.out]) (HN.out t hlt) (by have := HKK.out; omega) HR.out).mono ?_
      rintro e w2 ⟨rfl, hb2⟩
      have hd : decide (((kQ 1 n k0 t + n t : Nat) : Int) < 0) = false := decide_eq_false (by omega)
      have hd' : ¬ ((kQ 1 n k0 t + n t : Nat) : Int) < 0 := by omega
      go_wp2
      go_roundw
      case rel => exact ⟨t + 1, kQ 1 n k0 (t + 1), by omega, by go_num, by (show Value.int .i64 _ = Value.int .i64 ((kQ 1 n k0 t + 1 * n t : Nat) : Int)); (first | rfl | (congr 1; omega)), rfl, after hb hb2⟩
      case measure => simp [intOf]; omega
    · obtain rfl : t = N := by omega
      go_wp2
      go_ret
      exact ⟨by rw [hkk]; rfl, hb⟩
theorem eqRowSS_same (ao bo : Option Addr) (N c d : Nat) (n : Nat → Nat) (F : Nat → Nat → MRow) (w : World) (hN : N ≤ 1048576) (hn : ∀ i, i < N → n i ≤ 1048576) (hx : RowSS w ao N n F) (hy : RowSS w bo N n F) :
    Calls Tryz.prog 30 #[.slice ao N c, .slice bo N d] w fun e w' => e = .returned (.bool true) ∧ Below w.heap.size w w' := by
  have HX : Hid (RowSS w ao N n F) := hx
  have HY : Hid (RowSS w bo N n F) := hy
  have HN : Hid (∀ i, i < N → n i ≤ 1048576) := hn
  clear hx hy hn
  go_enter Tryz.func30, Tryz.ntmps30
  go_wp2
  go_loopw [5] (fun i wr => ∃ k : Nat, k ≤ N ∧ i = .int .i64 k ∧ Below w.heap.size w wr) (fun i _ => N - (intOf i).toNat)
  case atStart => exact ⟨0, Nat.zero_le _, rfl, Below.refl _ _⟩
  case round =>
    obtain ⟨k, hk, rfl, hb⟩ := hrel
    by_cases hlt : k < N
    · obtain ⟨b1, o1, a1, c1, rfl, h1, h2⟩ := HX.out k hlt
      obtain ⟨b2, o2, a2, c2, rfl, h3, h4⟩ := HY.out k hlt
      have q1 := (hb.cell (World.block_lt_of_cell? w _ h1)).trans h1
      have q2 := (hb.cell (World.block_lt_of_cell? w _ h3)).trans h3
      have HE : Hid (∀ w', Below w.heap.size w w' → Calls Tryz.prog 71 #[.slice a1 (n k) c1, .slice a2 (n k) c2] w' fun e w2 => e = .returned (.bool true) ∧ Below w'.heap.size w' w2) := fun w' h => (eqRowS_same a1 a2 (n k) c1 c2 (F k) w' (by have := HN.out k hlt; omega) (h2.below h) (h4.below h)).mono fun e w2 h5 => h5
      clear h1 h2 h3 h4
      have i1 : (k : Int) < (N : Int) := by omega
      have i0 : (0 : Int) ≤ (k : Int) := by omega
      have e1 : decide ((k : Int) < (N : Int)) = true := decide_eq_true i1
      go_upto_region 6 with fail
      go_region_held3 (fun w' => w'.cell? ⟨b1, o1 + k, none⟩ = some (.slice a1 (n k) c1) ∧ w'.cell? ⟨b2, o2 + k, none⟩ = some (.slice a2 (n k) c2))
        ((first | exact ⟨q1, q2⟩ | exact ⟨(hb5.cell (World.block_lt_of_cell? _ _ q1)).trans q1, (hb5.cell (World.block_lt_of_cell? _ _ q2)).trans q2⟩))
        (first | (go_at_call 71; refine Calls.mono (HE.out _ hb.drew) ?_; rintro e w5 ⟨rfl, hb5⟩))
      all_goals
        go_wp2
        go_roundw
        case rel => exact ⟨k + 1, by omega, by go_num, after hb.drew hb5⟩
        case measure => simp [intOf]; omega
    · obtain rfl : k = N := by omega
      go_wp2
      go_ret
      exact ⟨rfl, hb⟩
theorem markRowSS_own (z : Int) (ao : Option Addr) (N c base k0 : Nat) (n : Nat → Nat) (F : Nat → Nat → MRow) (L : Nat → Value) (w : World) (hz : z = (k0 : Int)) (hN : N ≤ 1000) (h1 : k0 ≤ 1000000000000) (hn : ∀ i, i < N → n i ≤ 1048576) (ho : OwnSS w base 55 116 5 (.slice ao N c) N n (fun i => rowList (F i) (n i)) L) :
    Calls Tryz.prog 38 #[.slice ao N c, .int .i64 z] w fun e w' => e = .returned (.int .i64 ((kQ 5 n k0 N : Nat) : Int)) ∧ OwnSS w' base 55 116 5 (.slice ao N c) N n (fun i => rowList (rowMark (kQ 5 n k0 i)) (n i)) L ∧ Kept w w' (SsB N L) := by
  subst hz
  have HN : Hid (∀ i, i < N → n i ≤ 1048576) := hn
  have HO : Hid (OwnSS w base 55 116 5 (.slice ao N c) N n (fun i => rowList (F i) (n i)) L) := ho
  clear hn ho
  go_enter Tryz.func38, Tryz.ntmps38
  go_wp2
  go_loopw [1, 5] (fun y i wr => ∃ t k : Nat, t ≤ N ∧ i = .int .i64 t ∧ y = .int .i64 k ∧ k = kQ 5 n k0 t ∧ OwnSS wr base 55 116 5 (.slice ao N c) N n (fun i => rowList (if i < t then (rowMark (kQ 5 n k0 i)) else F i) (n i)) L ∧ Kept w wr (SsB N L)) (fun _ i _ => N - (intOf i).toNat)
  case atStart => exact ⟨0, k0, Nat.zero_le _, rfl, rfl, rfl, HO.out.congr (fun i hi => rfl) (fun i hi => by simp), Kept.refl _ _⟩
  case round =>
    clear HO
    obtain ⟨t, k, ht, rfl, rfl, hkk, hO, hk⟩ := hrel
    have kb : k ≤ 10000000000000 := by have := kQ_fit (q := 5) (k0 := k0) (by decide) HN.out t ht; omega
    by_cases hlt : t < N
    · obtain ⟨g, rfl, q1⟩ := hO.cellAt hlt
      have hot := hO.each t hlt
      have hot : wr.ownsRow base 116 5 (L t) (n t) (rowList (F t) (n t)) := by simpa using hot
      obtain ⟨at1, ct, eL, _⟩ := own_form hot
      rw [eL] at q1 hot
      have HEL : Hid (L t = .slice at1 (n t) ct) := eL
      have HOT : Hid (wr.ownsRow base 116 5 (.slice at1 (n t) ct) (n t) (rowList (F t) (n t))) := hot
      have HOO : Hid (OwnSS wr base 55 116 5 (.slice (some ⟨g, 0, none⟩) N c) N n (fun i => rowList (if i < t then (rowMark (kQ 5 n k0 i)) else F i) (n i)) L) := hO
      have HKK : Hid (k = kQ 5 n k0 t) := hkk
      have i1 : (t : Int) < (N : Int) := by omega
      clear hO hot eL hkk
      go_wp2_with fail
      refine (markRowZ _ (.slice at1 (n t) ct) (n t) base (kQ 5 n k0 t) (F t) _ (by rw [HKK.out]) (HN.out t hlt) (by have := HKK.out; omega) HOT.out).mono ?_
      rintro e w2 ⟨rfl, ho2, hk2⟩
      have ho2' : w2.ownsRow base 116 5 (L t) (n t) (rowList (rowMark (kQ 5 n k0 t)) (n t)) := by rw [HEL.out]; exact ho2
      have hk2' : Kept wr w2 (fun b => (L t).ownBlock = some b) := by rw [HEL.out]; exact hk2
      have HO2 : Hid (OwnSS w2 base 55 116 5 (.slice (some ⟨g, 0, none⟩) N c) N n (fun i => rowList (if i < t + 1 then (rowMark (kQ 5 n k0 i)) else F i) (n i)) L) := by
        refine ⟨hk2'.own HOO.out.row (fun b e1 e2 => own_apart HOO.out.row (HOO.out.each t hlt) (by decide) b e1 e2), fun i hi => ?_, HOO.out.apart⟩
        by_cases e : i = t
        · subst e; rw [if_pos (by omega)]; exact ho2'
        · have h5 := hk2'.own (HOO.out.each i hi) (fun b e1 e2 => HOO.out.ne hi hlt e b e1 e2)
          by_cases h6 : i < t
          · rw [if_pos h6] at h5; rw [if_pos (by omega)]; exact h5
          · rw [if_neg h6] at h5; rw [if_neg (by omega)]; exact h5
      have hk3 : Kept w w2 (SsB N L) := hk.trans (hk2'.mono (fun b e => ⟨t, hlt, e⟩))
      clear ho2 hk2 ho2' hk2' hk HOT HOO
      go_wp2
      go_roundw
      case rel => exact ⟨t + 1, kQ 5 n k0 (t + 1), by omega, by go_num, by (show Value.int .i64 _ = Value.int .i64 ((kQ 5 n k0 t + 5 * n t : Nat) : Int)); (first | rfl | (congr 1; omega)), rfl, HO2.out, hk3⟩
      case measure => simp [intOf]; omega
    · obtain rfl : t = N := by omega
      go_wp2
      go_ret
      exact ⟨by rw [hkk]; rfl, hO.congr (fun i hi => rfl) (fun i hi => by rw [if_pos hi]), hk⟩
theorem heldRowSS_yes (z : Int) (ao : Option Addr) (N c k0 : Nat) (n : Nat → Nat) (w : World) (hz : z = (k0 : Int)) (hN : N ≤ 1000) (h1 : k0 ≤ 1000000000000) (hn : ∀ i, i < N → n i ≤ 1048576) (hx : RowSS w ao N n (fun i => (rowMark (kQ 5 n k0 i)))) :
    Calls Tryz.prog 42 #[.slice ao N c, .int .i64 z] w fun e w' => e = .returned (.int .i64 ((kQ 5 n k0 N : Nat) : Int)) ∧ Below w.heap.size w w' := by
  subst hz
  have HN : Hid (∀ i, i < N → n i ≤ 1048576) := hn
  have HX : Hid (RowSS w ao N n (fun i => (rowMark (kQ 5 n k0 i)))) := hx
  clear hn hx
  go_enter Tryz.func42, Tryz.ntmps42
  go_wp2
  go_loopw [1, 5] (fun y i wr => ∃ t k : Nat, t ≤ N ∧ i = .int .i64 t ∧ y = .int .i64 k ∧ k = kQ 5 n k0 t ∧ Below w.heap.size w wr) (fun _ i _ => N - (intOf i).toNat)
  case atStart => exact ⟨0, k0, Nat.zero_le _, rfl, rfl, rfl, Below.refl _ _⟩
  case round =>
    obtain ⟨t, k, ht, rfl, rfl, hkk, hb⟩ := hrel
    have kb : k ≤ 10000000000000 := by have := kQ_fit (q := 5) (k0 := k0) (by decide) HN.out t ht; omega
    by_cases hlt : t < N
    · obtain ⟨b1, o1, a1, c1, rfl, h1, h2⟩ := HX.out t hlt
      have q1 := (hb.cell (World.block_lt_of_cell? w _ h1)).trans h1
      have HR : Hid (MRowsAt wr a1 (n t) (rowMark (kQ 5 n k0 t))) := h2.below hb
      have HKK : Hid (k = kQ 5 n k0 t) := hkk
      have i1 : (t : Int) < (N : Int) := by omega
      clear h1 h2 hkk
      go_wp2_with fail
      refine (heldRowZ _ a1 (n t) c1 (kQ 5 n k0 t) _ (by rw [HKK.out]) (HN.out t hlt) (by have := HKK.out; omega) HR.out).mono ?_
      rintro e w2 ⟨rfl, hb2⟩
      have hd : decide (((kQ 5 n k0 t + 5 * n t : Nat) : Int) < 0) = false := decide_eq_false (by omega)
      have hd' : ¬ ((kQ 5 n k0 t + 5 * n t : Nat) : Int) < 0 := by omega
      go_wp2
      go_roundw
      case rel => exact ⟨t + 1, kQ 5 n k0 (t + 1), by omega, by go_num, by (show Value.int .i64 _ = Value.int .i64 ((kQ 5 n k0 t + 5 * n t : Nat) : Int)); (first | rfl | (congr 1; omega)), rfl, after hb hb2⟩
      case measure => simp [intOf]; omega
    · obtain rfl : t = N := by omega
      go_wp2
      go_ret
      exact ⟨by rw [hkk]; rfl, hb⟩
end Go.Proofs.YtlelckbeoclhbaaGreat

namespace Go.Proofs.YtlelckbeoclhbaaGreat
open Go.RowKit
theorem heldBks_yes (ao : Option Addr) (N c k0 : Nat) (S : Nat → Book) (w : World) (hN : N ≤ 1048576) (h1 : k0 ≤ 1048576) (hs : ∀ i, i < N → (S i).lgn ≤ 1048576) (hz : BooksAt w ao N (mB S k0)) :
    Calls Tryz.prog 41 #[.slice ao N c, .int .i64 (k0 : Int)] w fun e w' => e = .returned (.int .i64 ((kB S k0 N : Nat) : Int)) ∧ Below w.heap.size w w' := by
  have HS : Hid (∀ i, i < N → (S i).lgn ≤ 1048576) := hs
  have HX : Hid (BooksAt w ao N (mB S k0)) := hz
  clear hs hz
  go_enter Tryz.func41, Tryz.ntmps41
  go_wp2
  go_loopw [1, 5] (fun q i wr => ∃ (t k : Nat), t ≤ N ∧ i = .int .i64 t ∧ q = .int .i64 k ∧ k = kB S k0 t ∧ Below w.heap.size w wr) (fun _ i _ => N - (intOf i).toNat)
  case atStart => exact ⟨0, k0, Nat.zero_le _, rfl, rfl, rfl, Below.refl _ _⟩
  case round =>
    obtain ⟨t, k, ht, rfl, rfl, hkk, hbel⟩ := hrel
    have HKK : Hid (k = kB S k0 t) := hkk
    have kb : k ≤ 10000000000000 := by have := kB_le (k0 := k0) HS.out t ht; omega
    clear hkk
    by_cases hlt : t < N
    · obtain ⟨E, hE, hI⟩ := HX.out
      obtain ⟨b, off, rfl, hc⟩ := hE t hlt
      obtain ⟨al, cl, eC, hlg, slg⟩ := hI t hlt
      have hsn := HS.out t hlt
      have hb : b < w.heap.size := World.block_lt_of_cell? w _ (hc 0 (by decide))
      have i1 : (t : Int) < (N : Int) := by omega
      obtain ⟨s2, hs2⟩ : ∃ s, s = markT ((k : Int) + 1 + 1).toNat := ⟨_, rfl⟩
      have HS2 : Hid (s2 = markT ((k : Int) + 1 + 1).toNat) := hs2
      have e0 := HKK.out
      have HLG : Hid (IntsAt w al (S t).lgn (fun j => ((kB S k0 t + 3 : Nat) : Int) + j)) := hlg
      have HC : Hid (∀ w', Below w.heap.size w w' → w'.cell? ⟨b, off + t * 13, none⟩ = some (.int .i64 (k : Int)) ∧ w'.cell? ⟨b, off + t * 13 + 1, none⟩ = some (.int .i64 ((k : Int) + 1)) ∧ w'.cell? ⟨b, off + t * 13 + 2, none⟩ = some (.string s2) ∧ w'.cell? ⟨b, off + t * 13 + 3, none⟩ = some (.slice al (S t).lgn cl) ∧ w'.cell? ⟨b, off + t * 13 + 4, none⟩ = some (.int .i64 (((kB S k0 t + 3 + (S t).lgn : Nat) : Int))) ∧ w'.cell? ⟨b, off + t * 13 + 5, none⟩ = some (.int .i64 (((kB S k0 t + 3 + (S t).lgn : Nat) : Int) + 1)) ∧ w'.cell? ⟨b, off + t * 13 + 6, none⟩ = some (.int .i64 (((kB S k0 t + 3 + (S t).lgn : Nat) : Int) + 1 + 1)) ∧ w'.cell? ⟨b, off + t * 13 + 7, none⟩ = some (.int .i64 (((kB S k0 t + 3 + (S t).lgn : Nat) : Int) + 1 + 1 + 1)) ∧ w'.cell? ⟨b, off + t * 13 + 8, none⟩ = some (.bool ((((kB S k0 t + 3 + (S t).lgn : Nat) : Int) + 1 + 1 + 1 + 1) % 3 == 0)) ∧ w'.cell? ⟨b, off + t * 13 + 9, none⟩ = some (.int .i64 (((kB S k0 t + 3 + (S t).lgn : Nat) : Int) + 1 + 1 + 1 + 1 + 1)) ∧ w'.cell? ⟨b, off + t * 13 + 10, none⟩ = some (.int .i64 (((kB S k0 t + 3 + (S t).lgn : Nat) : Int) + 1 + 1 + 1 + 1 + 1 + 1)) ∧ w'.cell? ⟨b, off + t * 13 + 11, none⟩ = some (.int .i64 (((kB S k0 t + 3 + (S t).lgn : Nat) : Int) + 1 + 1 + 1 + 1 + 1 + 1 + 1)) ∧ w'.cell? ⟨b, off + t * 13 + 12, none⟩ = some (.int .i64 (((kB S k0 t + 3 + (S t).lgn : Nat) : Int) + 1 + 1 + 1 + 1 + 1 + 1 + 1 + 1))) := fun w' h => by
        refine ⟨(h.cell (p := ⟨b, off + t * 13, none⟩) hb).trans ?_, (h.cell (p := ⟨b, off + t * 13 + 1, none⟩) hb).trans ?_, (h.cell (p := ⟨b, off + t * 13 + 2, none⟩) hb).trans ?_, (h.cell (p := ⟨b, off + t * 13 + 3, none⟩) hb).trans ?_, (h.cell (p := ⟨b, off + t * 13 + 4, none⟩) hb).trans ?_, (h.cell (p := ⟨b, off + t * 13 + 5, none⟩) hb).trans ?_, (h.cell (p := ⟨b, off + t * 13 + 6, none⟩) hb).trans ?_, (h.cell (p := ⟨b, off + t * 13 + 7, none⟩) hb).trans ?_, (h.cell (p := ⟨b, off + t * 13 + 8, none⟩) hb).trans ?_, (h.cell (p := ⟨b, off + t * 13 + 9, none⟩) hb).trans ?_, (h.cell (p := ⟨b, off + t * 13 + 10, none⟩) hb).trans ?_, (h.cell (p := ⟨b, off + t * 13 + 11, none⟩) hb).trans ?_, (h.cell (p := ⟨b, off + t * 13 + 12, none⟩) hb).trans ?_⟩
        · have h5 := hc 0 (by decide); rw [eC] at h5; refine h5.trans ?_; show some (Value.int .i64 ((kB S k0 t : Nat) : Int)) = _; rw [e0]
        · have h5 := hc 1 (by decide); rw [eC] at h5; refine h5.trans ?_; show some (Value.int .i64 ((kB S k0 t + 1 : Nat) : Int)) = _; congr 2; omega
        · have h5 := hc 2 (by decide); rw [eC] at h5; refine h5.trans ?_; show some (Value.string (markT (kB S k0 t + 2))) = _; rw [hs2, show ((k : Int) + 1 + 1).toNat = kB S k0 t + 2 by omega]
        · have h5 := hc 3 (by decide); rw [eC] at h5; refine h5.trans ?_; rfl
        · have h5 := hc 4 (by decide); rw [eC] at h5; refine h5.trans ?_; rfl
        · have h5 := hc 5 (by decide); rw [eC] at h5; refine h5.trans ?_; show some (Value.int .i64 ((kB S k0 t + 4 + (S t).lgn : Nat) : Int)) = _; congr 2; omega
        · have h5 := hc 6 (by decide); rw [eC] at h5; refine h5.trans ?_; show some (Value.int .i64 ((kB S k0 t + 5 + (S t).lgn : Nat) : Int)) = _; congr 2; omega
        · have h5 := hc 7 (by decide); rw [eC] at h5; refine h5.trans ?_; show some (Value.int .i64 ((kB S k0 t + 6 + (S t).lgn : Nat) : Int)) = _; congr 2; omega
        · have h5 := hc 8 (by decide); rw [eC] at h5; refine h5.trans ?_; show some (Value.bool (((kB S k0 t + 7 + (S t).lgn : Nat) : Int) % 3 == 0)) = _; rw [show ((kB S k0 t + 3 + (S t).lgn : Nat) : Int) + 1 + 1 + 1 + 1 = ((kB S k0 t + 7 + (S t).lgn : Nat) : Int) by omega]
        · have h5 := hc 9 (by decide); rw [eC] at h5; refine h5.trans ?_; show some (Value.int .i64 ((kB S k0 t + 8 + (S t).lgn : Nat) : Int)) = _; congr 2; omega
        · have h5 := hc 10 (by decide); rw [eC] at h5; refine h5.trans ?_; show some (Value.int .i64 ((kB S k0 t + 9 + (S t).lgn : Nat) : Int)) = _; congr 2; omega
        · have h5 := hc 11 (by decide); rw [eC] at h5; refine h5.trans ?_; show some (Value.int .i64 ((kB S k0 t + 10 + (S t).lgn : Nat) : Int)) = _; congr 2; omega
        · have h5 := hc 12 (by decide); rw [eC] at h5; refine h5.trans ?_; show some (Value.int .i64 ((kB S k0 t + 11 + (S t).lgn : Nat) : Int)) = _; congr 2; omega
      clear hE hI hc eC hlg slg hs2 e0
      obtain ⟨c0, c1, c2, _⟩ := HC.out wr hbel
      have n0 : ((k : Int) != (k : Int)) = false := by simp
      have n1 : ((k : Int) + 1 != (k : Int) + 1) = false := by simp
      go_upto_region 10 with fail
      clear c0 c1
      go_cut [1, 5, 37] (fun q i v wx => q = .int .i64 ((k : Int) + 1 + 1) ∧ i = .int .i64 t ∧ v = .bool false ∧ Below w.heap.size w wx)
      case first =>
        go_region_held3 (fun w' => w'.cell? ⟨b, off + t * 13 + 2, none⟩ = some (.string s2))
          ((first | exact c2 | exact (HC.out _ (after hbel.drew hb3)).2.2.1))
          (first | (go_at_call 74; refine (markText_isZ _ _ (by omega) (by omega)).mono ?_; rintro e w3 ⟨rfl, hb3⟩; rw [← HS2.out]))
        all_goals
          go_wp2
          go_meet
          exact ⟨rfl, rfl, by simp, after hbel.drew hb3⟩
      case rest =>
        obtain ⟨rfl, rfl, rfl, hb1⟩ := hcut
        clear c2
        obtain ⟨_, _, _, c3, _⟩ := HC.out _ hb1
        go_wp2_with fail
        refine (heldIntZ _ al (S t).lgn cl (kB S k0 t + 3) _ (by have := HKK.out; omega) hsn (by have := HKK.out; omega) (HLG.out.below hb1)).mono ?_
        rintro e w5 ⟨rfl, hb5⟩
        have hb6 := after hb1 hb5
        clear c3 hb1 hb5 HLG
        obtain ⟨_, _, _, _, c4, c5, c6, c7, c8, c9, c10, c11, c12⟩ := HC.out _ hb6
        have hk9 : kB S k0 t + 3 + (S t).lgn ≤ 20000000000000 := by have := HKK.out; omega
        have hd : decide (((kB S k0 t + 3 + (S t).lgn : Nat) : Int) < 0) = false := decide_eq_false (by omega)
        have hd' : ¬ ((kB S k0 t + 3 + (S t).lgn : Nat) : Int) < 0 := by omega
        clear HC
        generalize hK4 : ((kB S k0 t + 3 + (S t).lgn : Nat) : Int) = K4 at *
        have k4b : 0 ≤ K4 ∧ K4 ≤ 20000000000000 := by omega
        go_wp2
        go_roundw
        case rel =>
          refine ⟨t + 1, kB S k0 (t + 1), by omega, by go_num, ?_, rfl, hb6⟩
          show Value.int .i64 _ = Value.int .i64 ((kB S k0 t + (12 + (S t).lgn) : Nat) : Int)
          congr 1
          (try unfold wrap64); omega
        case measure => simp [intOf]; omega
    · obtain rfl : t = N := by omega
      go_wp2
      go_ret
      exact ⟨by rw [HKK.out]; rfl, hbel⟩
end Go.Proofs.YtlelckbeoclhbaaGreat
