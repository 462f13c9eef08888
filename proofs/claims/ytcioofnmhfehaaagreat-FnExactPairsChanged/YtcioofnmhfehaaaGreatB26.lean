/-
  OWN TEXT: MarkON, LawPc, Views.
-/
import Derived.Deep.RegionHeld3
import Derived.ProofKit
import Derived.OpenShut
import Derived.ChangeOld
import Derived.SizedLaws
import Derived.Deep.Slices
import Derived.Deep.Strs
import Derived.Lib.SmallJoins
import Derived.Test.YtcioofnmhfehaaaGreatB25
import Derived.Test.YtcioofnmhfehaaaGreatB19
import Derived.Test.YtcioofnmhfehaaaGreatB21
import Derived.Test.YtcioofnmhfehaaaGreatB08
import Derived.Test.YtcioofnmhfehaaaGreatB00
namespace Go.Proofs.YtcioofnmhfehaaaGreat
open Go.RowKit

set_option maxHeartbeats 1600000 in
theorem markSailingS_to (g N B base k0 : Nat) (n m l c : Nat → Nat) (w : World) (hN : N ≤ 1048576) (hk0 : k0 ≤ 100000000000000) (hn : ∀ i, i < N → n i ≤ 1048576) (hm : ∀ i, i < N → m i ≤ 1048576) (hg : g < B) (hB : ∀ i, i < N → c i < B) (ho : MarkIs w base g N n m l c) :
    Calls Tryz.prog 28 #[.slice (some ⟨g, 0, none⟩) N N, .int .i64 k0] w fun e w' => (∃ k : Nat, k ≤ k0 + 10000000000000 ∧ e = .returned (.int .i64 k)) ∧ Kept w w' (fun b => g ≤ b ∧ b < B) := by
  have HN : Hid (∀ i, i < N → n i ≤ 1048576 ∧ m i ≤ 1048576 ∧ c i < B) := fun i hi => ⟨hn i hi, hm i hi, hB i hi⟩
  clear hn hm hB
  go_enter Tryz.func28, Tryz.ntmps28
  go_wp2
  go_loopw [1, 5] (fun q i wr => ∃ t k : Nat, t ≤ N ∧ i = .int .i64 t ∧ q = .int .i64 k ∧ k ≤ k0 + t * 4194310 ∧ MarkIs wr base g N n m l c ∧ Kept w wr (fun b => g ≤ b ∧ b < B)) (fun _ i _ => N - (intOf i).toNat)
  case atStart => exact ⟨0, k0, Nat.zero_le _, rfl, rfl, by omega, ho, Kept.refl _ _⟩
  case round =>
    obtain ⟨t, k, ht, rfl, rfl, hkk, hM, hk⟩ := hrel
    by_cases hlt : t < N
    · have sN := HN.out t hlt
      have oN := hM.ord t hlt
      obtain ⟨v0, hc0⟩ := hM.cell (t * 8) (by omega)
      have hf0 := hM.ice (t * 8)
      go_wp2_with fail
      refine (markText_int _ _ (by omega) (by omega)).mono ?_
      rintro e w2 ⟨⟨s, rfl⟩, hb2⟩
      have hM2 := (hM.put (t * 8) (by omega) (by omega) (.int .i64 k)).below hb2
      have hk2 := (hk.set (a := ⟨g, t * 8, none⟩) ⟨Nat.le_refl g, hg⟩ (.int .i64 k)).trans (Kept.of_below hb2)
      clear hM hk hc0 hf0 hb2
      obtain ⟨v1, hc1⟩ := hM2.cell (t * 8 + 1) (by omega)
      have hf1 := hM2.ice (t * 8 + 1)
      go_wp2_with fail
      refine (markText_int _ _ (by omega) (by omega)).mono ?_
      rintro e w3 ⟨⟨s', rfl⟩, hb3⟩
      have hM3 := (hM2.put (t * 8 + 1) (by omega) (by omega) (.string s)).below hb3
      have hk3 := (hk2.set (a := ⟨g, t * 8 + 1, none⟩) ⟨Nat.le_refl g, hg⟩ (.string s)).trans (Kept.of_below hb3)
      clear hM2 hk2 hc1 hf1 hb3
      have hM4 := ((hM3.put (t * 8 + 2) (by omega) (by omega) (.string s')).put (t * 8 + 3) (by omega) (by omega) (.int .i64 (k + 1 + 1 + 1))).put (t * 8 + 4) (by omega) (by omega) (.int .i64 (k + 1 + 1 + 1 + 1))
      have hk4 := ((hk3.set (a := ⟨g, t * 8 + 2, none⟩) ⟨Nat.le_refl g, hg⟩ (.string s')).set (a := ⟨g, t * 8 + 3, none⟩) ⟨Nat.le_refl g, hg⟩ (.int .i64 (k + 1 + 1 + 1))).set (a := ⟨g, t * 8 + 4, none⟩) ⟨Nat.le_refl g, hg⟩ (.int .i64 (k + 1 + 1 + 1 + 1))
      obtain ⟨v2, hc2⟩ := hM3.cell (t * 8 + 2) (by omega)
      obtain ⟨v3, hc3⟩ := hM3.cell (t * 8 + 3) (by omega)
      obtain ⟨v4, hc4⟩ := hM3.cell (t * 8 + 4) (by omega)
      have hc5 := hM3.lane hlt
      have hf2 := hM3.ice (t * 8 + 2)
      have hf3 := hM3.ice (t * 8 + 3)
      have hf4 := hM3.ice (t * 8 + 4)
      go_wp2_with fail
      obtain ⟨F, hF⟩ := hM4.lanes t hlt
      refine (markLaneS_own (l t) (n t) base F _ _ sN.1 (by omega) (by omega) hF).mono ?_
      rintro e w5 ⟨rfl, ho5, hb5⟩
      have hM5 := hM4.keptL hlt hb5 ho5
      have hk5 := hk4.trans (hb5.mono (fun b e => ⟨by omega, by omega⟩))
      clear hM3 hk3 hM4 hk4 hF ho5 hb5 hc2 hc3 hc4 hc5 hf2 hf3 hf4
      have hc6 := hM5.cabin hlt
      obtain ⟨G, hG⟩ := hM5.cabins t hlt
      go_wp2_with fail
      refine (markCabinS_own (c t) (m t) base G _ _ sN.2.1 (by omega) (by omega) hG).mono ?_
      rintro e w6 ⟨rfl, ho6, hb6⟩
      have hM6 := hM5.keptC hlt hb6 ho6
      have hk6 := hk5.trans (hb6.mono (fun b e => ⟨by omega, by omega⟩))
      clear hM5 hk5 hG ho6 hb6 hc6
      obtain ⟨v7, hc7⟩ := hM6.cell (t * 8 + 7) (by omega)
      have hf7 := hM6.ice (t * 8 + 7)
      go_wp2
      go_roundw
      case rel => exact ⟨t + 1, k + 5 + 2 * n t + 2 * m t + 1, by omega, by go_num, by congr 1, by omega, hM6.put (t * 8 + 7) (by omega) (by omega) _, hk6.set (a := ⟨g, t * 8 + 7, none⟩) ⟨Nat.le_refl g, hg⟩ _⟩
      case measure => simp [intOf]; omega
    · obtain rfl : t = N := by omega
      go_wp2
      go_ret
      exact ⟨⟨k, by omega, rfl⟩, hk⟩

set_option maxHeartbeats 1600000 in
set_option maxRecDepth 100000 in
theorem markLoadS_to (g N lo hi k0 : Nat) (S : Nat → Load) (C : Nat → List Value) (w : World) (hN : N ≤ 1048576) (hk0 : k0 ≤ 200000000000000) (hs : LoadsShort N S 1048576) (ho : LoadsTo w N lo hi g N S C) :
    Calls Tryz.prog 29 #[.slice (some ⟨g, 0, none⟩) N N, .int .i64 k0] w fun e w' => (∃ k : Nat, k ≤ k0 + 20000000000000 ∧ e = .returned (.int .i64 k)) ∧ Kept w w' (fun b => lo ≤ b ∧ b < hi) := by
  have key : ∀ i, i < N → ∃ p : Nat × Nat × Nat, (C i = [whole p.1 (S i).stn, whole p.2.1 (S i).ron, whole p.2.2 (S i).sen] ∧ (g < p.1 ∧ p.1 < hi) ∧ (g < p.2.1 ∧ p.2.1 < hi) ∧ (g < p.2.2 ∧ p.2.2 < hi)) ∧ StayRow w lo p.1 (S i).stn ∧ RoomRow w lo p.2.1 (S i).ron ∧ SeatRow w lo p.2.2 (S i).sen := by
    intro i hi'
    obtain ⟨a, b, c, e, ha, hb, hc⟩ := ho.each i hi'
    have sh := hs i hi'
    have gl := ho.glo
    unfold Load.Short at sh
    exact ⟨(a, b, c), ⟨e, ⟨Nat.lt_of_succ_le ha.1, ha.2.1⟩, ⟨Nat.lt_of_succ_le hb.1, hb.2.1⟩, ⟨Nat.lt_of_succ_le hc.1, hc.2.1⟩⟩, ⟨_, ⟨_, rfl⟩, own_of_row ha.2.2 (Nat.le_trans (Nat.le_succ_of_le gl) ha.1) (by unfold maxLen; omega)⟩, ⟨_, ⟨_, rfl⟩, own_of_row hb.2.2 (Nat.le_trans (Nat.le_succ_of_le gl) hb.1) (by unfold maxLen; omega)⟩, ⟨_, ⟨_, rfl⟩, own_of_row hc.2.2 (Nat.le_trans (Nat.le_succ_of_le gl) hc.1) (by unfold maxLen; omega)⟩⟩
  obtain ⟨p, hp⟩ := Go.Deep.choose_lt key
  have HP : Hid (∀ i, i < N → C i = [whole (p i).1 (S i).stn, whole (p i).2.1 (S i).ron, whole (p i).2.2 (S i).sen] ∧ (g < (p i).1 ∧ (p i).1 < hi) ∧ (g < (p i).2.1 ∧ (p i).2.1 < hi) ∧ (g < (p i).2.2 ∧ (p i).2.2 < hi)) := fun i hi' => (hp i hi').1
  have hrows : LoadRows w lo N S (fun i => (p i).1) (fun i => (p i).2.1) (fun i => (p i).2.2) := fun i hi' => (hp i hi').2
  have HO : Hid (LoadsTo w N lo hi g N S C) := ho
  have HS : Hid (LoadsShort N S 1048576) := hs
  have hgl := ho.glo
  clear hs ho key hp
  go_enter Tryz.func29, Tryz.ntmps29
  go_wp2
  go_loopw [1, 5] (fun q i wr => ∃ t k : Nat, t ≤ N ∧ i = .int .i64 t ∧ q = .int .i64 k ∧ k ≤ k0 + t * 10485760 ∧ LoadRows wr lo N S (fun i => (p i).1) (fun i => (p i).2.1) (fun i => (p i).2.2) ∧ Kept w wr (fun b => g < b ∧ b < hi)) (fun _ i _ => N - (intOf i).toNat)
  case atStart => exact ⟨0, k0, Nat.zero_le _, rfl, rfl, by omega, hrows, Kept.refl _ _⟩
  case round =>
    obtain ⟨t, k, ht, rfl, rfl, hkk, hR, hk⟩ := hrel
    by_cases hlt : t < N
    · obtain ⟨hC, b1, b2, b3⟩ := HP.out t hlt
      obtain ⟨n1, n2, n3⟩ := HS.out t hlt
      have rowk : ∀ w', Kept w w' (fun b => g < b ∧ b < hi) → ∀ j, j < 3 → w'.cell? ⟨g, t * 3 + j, none⟩ = some ([whole (p t).1 (S t).stn, whole (p t).2.1 (S t).ron, whole (p t).2.2 (S t).sen].getD j (.bool false)) := by
        intro w' hk' j hj
        have r := HO.out.row.of_block (hk'.block _ HO.out.row.lt (fun s => by omega))
        rw [r.cell (by omega), recCell_at 3 _ t j hj, upto_lt _ _ hlt, hC]
      have HRK : Hid (∀ w', Kept w w' (fun b => g < b ∧ b < hi) → ∀ j, j < 3 → w'.cell? ⟨g, t * 3 + j, none⟩ = some ([whole (p t).1 (S t).stn, whole (p t).2.1 (S t).ron, whole (p t).2.2 (S t).sen].getD j (.bool false))) := rowk
      clear rowk hC
      have hc0 : wr.cell? ⟨g, t * 3, none⟩ = some (.slice (some ⟨(p t).1, 0, none⟩) (S t).stn (S t).stn) := HRK.out wr hk 0 (by omega)
      go_wp2_with fail
      have r1 : StayRow wr lo (p t).1 (S t).stn := (hR t hlt).1
      refine (markStay_row n1 (by omega) (by omega) r1).mono ?_
      rintro e w2 ⟨rfl, o2, k2⟩
      have hR2 := hR.stay r1 o2 k2
      have hk2 := hk.trans (k2.mono (fun b e => by have e : b = (p t).1 := e; exact ⟨by omega, by omega⟩))
      clear hR hk k2 o2 r1 hc0
      have hc1 : w2.cell? ⟨g, t * 3 + 1, none⟩ = some (.slice (some ⟨(p t).2.1, 0, none⟩) (S t).ron (S t).ron) := HRK.out w2 hk2 1 (by omega)
      go_wp2_with fail
      have r1 : RoomRow w2 lo (p t).2.1 (S t).ron := (hR2 t hlt).2.1
      refine (markRoom_row n2 (by omega) (by omega) r1).mono ?_
      rintro e w3 ⟨rfl, o3, k3⟩
      have hR3 := hR2.room r1 o3 k3
      have hk3 := hk2.trans (k3.mono (fun b e => by have e : b = (p t).2.1 := e; exact ⟨by omega, by omega⟩))
      clear hR2 hk2 k3 o3 r1 hc1
      have hc2 : w3.cell? ⟨g, t * 3 + 2, none⟩ = some (.slice (some ⟨(p t).2.2, 0, none⟩) (S t).sen (S t).sen) := HRK.out w3 hk3 2 (by omega)
      go_wp2_with fail
      have r1 : SeatRow w3 lo (p t).2.2 (S t).sen := (hR3 t hlt).2.2
      refine (markSeat_row n3 (by omega) (by omega) r1).mono ?_
      rintro e w4 ⟨rfl, o4, k4⟩
      have hR4 := hR3.seat r1 o4 k4
      have hk4 := hk3.trans (k4.mono (fun b e => by have e : b = (p t).2.2 := e; exact ⟨by omega, by omega⟩))
      clear hR3 hk3 k4 o4 r1 hc2
      go_wp2
      go_roundw
      case rel => exact ⟨t + 1, k + 4 * (S t).stn + 4 * (S t).ron + 2 * (S t).sen, by omega, by go_num, by congr 1, by omega, hR4, hk4⟩
      case measure => simp [intOf]; omega
    · obtain rfl : t = N := by omega
      go_wp2
      go_ret
      exact ⟨⟨k, by omega, rfl⟩, hk.mono (fun b e => by have e : g < b ∧ b < hi := e; exact ⟨by omega, by omega⟩)⟩

set_option maxHeartbeats 3200000 in
set_option maxRecDepth 100000 in
theorem markBookingS_to (g N lo hi k0 : Nat) (S : Nat → Book) (C : Nat → List Value) (w : World) (hN : N ≤ 1048576) (hk0 : k0 ≤ 300000000000000) (hs : BooksShort N S 1048576) (ho : BooksTo w N lo hi g N S C) :
    Calls Tryz.prog 30 #[.slice (some ⟨g, 0, none⟩) N N, .int .i64 k0] w fun e w' => (∃ k : Nat, k ≤ k0 + 2000000000000 ∧ e = .returned (.int .i64 k)) ∧ Kept w w' (fun b => lo ≤ b ∧ b < hi) := by
  have key : ∀ i, i < N → ∃ q : Nat, (g < q ∧ q < hi) ∧ (C i).getD 3 (.bool false) = whole q (S i).lgn ∧ IntRow w lo q (S i).lgn := by
    intro i hi'
    obtain ⟨a, e, ha⟩ := ho.each i hi'
    have sh := hs i hi'
    have gl := ho.glo
    unfold Book.Short at sh
    exact ⟨a, ⟨Nat.lt_of_succ_le ha.1, ha.2.1⟩, by rw [e]; rfl, ⟨_, ⟨_, rfl⟩, by have := own_of_row (size := 1) (n := (S i).lgn) (by rw [Nat.mul_one]; exact ha.2.2) (Nat.le_trans (Nat.le_succ_of_le gl) ha.1) (by unfold maxLen; omega); rw [Nat.mul_one] at this; exact this⟩⟩
  obtain ⟨l, hp⟩ := Go.Deep.choose_lt key
  have hM0 : BMark w lo g N (fun i => (S i).lgn) l := by
    refine ⟨fun i hi' => (hp i hi').1.1, ⟨_, own_of_row ho.row ho.glo (by unfold maxLen; omega), fun i hi' => ?_⟩, fun i hi' => (hp i hi').2.2⟩
    rw [recCell_at 13 _ i 3 (by omega), upto_lt _ _ hi', (hp i hi').2.1]
  have HP : Hid (∀ i, i < N → (S i).lgn ≤ 1048576 ∧ g < l i ∧ l i < hi) := fun i hi' => ⟨(hs i hi').2, (hp i hi').1⟩
  have hgl := ho.glo
  have hgh := ho.ghi
  clear hs ho key hp
  go_enter Tryz.func30, Tryz.ntmps30
  go_wp2
  go_loopw [1, 5] (fun q i wr => ∃ t k : Nat, t ≤ N ∧ i = .int .i64 t ∧ q = .int .i64 k ∧ k ≤ k0 + t * 1048600 ∧ BMark wr lo g N (fun i => (S i).lgn) l ∧ Kept w wr (fun b => g ≤ b ∧ b < hi)) (fun _ i _ => N - (intOf i).toNat)
  case atStart => exact ⟨0, k0, Nat.zero_le _, rfl, rfl, by omega, hM0, Kept.refl _ _⟩
  case round =>
    obtain ⟨t, k, ht, rfl, rfl, hkk, hM, hk⟩ := hrel
    by_cases hlt : t < N
    · obtain ⟨n1, b1, b2⟩ := HP.out t hlt
      obtain ⟨v0, hc0⟩ := hM.cell (t * 13) (by omega)
      obtain ⟨v1, hc1⟩ := hM.cell (t * 13 + 1) (by omega)
      have hf0 := hM.ice (t * 13)
      have hf1 := hM.ice (t * 13 + 1)
      go_wp2_with fail
      refine (markText_int _ _ (by omega) (by omega)).mono ?_
      rintro e w2 ⟨⟨s, rfl⟩, hb2⟩
      have hM2 := ((hM.put (t * 13) (by omega) (.int .i64 k)).put (t * 13 + 1) (by omega) (.int .i64 (k + 1))).below hb2
      have hk2 := ((hk.set (a := ⟨g, t * 13, none⟩) ⟨Nat.le_refl g, hgh⟩ (.int .i64 k)).set (a := ⟨g, t * 13 + 1, none⟩) ⟨Nat.le_refl g, hgh⟩ (.int .i64 (k + 1))).trans (Kept.of_below hb2)
      clear hM hk hc0 hf0 hc1 hf1 hb2
      obtain ⟨v2, hc2⟩ := hM2.cell (t * 13 + 2) (by omega)
      have hf2 := hM2.ice (t * 13 + 2)
      have hc3 := hM2.leg hlt
      have hM3 := hM2.put (t * 13 + 2) (by omega) (.string s)
      have hk3 := hk2.set (a := ⟨g, t * 13 + 2, none⟩) ⟨Nat.le_refl g, hgh⟩ (.string s)
      go_wp2_with fail
      have r1 : IntRow (w2.setCell ⟨g, t * 13 + 2, none⟩ (.string s)) lo (l t) (S t).lgn := hM3.legs t hlt
      refine (markInt_row n1 (by omega) (by omega) r1).mono ?_
      rintro e w4 ⟨rfl, o4, k4⟩
      have hM4 := hM3.mark hlt k4 o4
      have hk4 := hk3.trans (k4.mono (fun b e => by have e : b = l t := e; exact ⟨by omega, by omega⟩))
      clear hM2 hk2 hM3 hk3 hc2 hf2 hc3 r1 o4 k4 w2
      obtain ⟨v4, hc4⟩ := hM4.cell (t * 13 + 4) (by omega)
      have hf4 := hM4.ice (t * 13 + 4)
      obtain ⟨v5, hc5⟩ := hM4.cell (t * 13 + 5) (by omega)
      have hf5 := hM4.ice (t * 13 + 5)
      obtain ⟨v6, hc6⟩ := hM4.cell (t * 13 + 6) (by omega)
      have hf6 := hM4.ice (t * 13 + 6)
      obtain ⟨v7, hc7⟩ := hM4.cell (t * 13 + 7) (by omega)
      have hf7 := hM4.ice (t * 13 + 7)
      obtain ⟨v8, hc8⟩ := hM4.cell (t * 13 + 8) (by omega)
      have hf8 := hM4.ice (t * 13 + 8)
      obtain ⟨v9, hc9⟩ := hM4.cell (t * 13 + 9) (by omega)
      have hf9 := hM4.ice (t * 13 + 9)
      obtain ⟨v10, hc10⟩ := hM4.cell (t * 13 + 10) (by omega)
      have hf10 := hM4.ice (t * 13 + 10)
      obtain ⟨v11, hc11⟩ := hM4.cell (t * 13 + 11) (by omega)
      have hf11 := hM4.ice (t * 13 + 11)
      obtain ⟨v12, hc12⟩ := hM4.cell (t * 13 + 12) (by omega)
      have hf12 := hM4.ice (t * 13 + 12)
      go_wp2
      go_roundw
      case rel => exact ⟨t + 1, k + 12 + (S t).lgn, by omega, by go_num, by go_num, by omega, ((((((((hM4.put (t * 13 + 4) (by omega) _).put (t * 13 + 5) (by omega) _).put (t * 13 + 6) (by omega) _).put (t * 13 + 7) (by omega) _).put (t * 13 + 8) (by omega) _).put (t * 13 + 9) (by omega) _).put (t * 13 + 10) (by omega) _).put (t * 13 + 11) (by omega) _).put (t * 13 + 12) (by omega) _, ((((((((hk4.set (a := ⟨g, t * 13 + 4, none⟩) ⟨Nat.le_refl g, hgh⟩ _).set (a := ⟨g, t * 13 + 5, none⟩) ⟨Nat.le_refl g, hgh⟩ _).set (a := ⟨g, t * 13 + 6, none⟩) ⟨Nat.le_refl g, hgh⟩ _).set (a := ⟨g, t * 13 + 7, none⟩) ⟨Nat.le_refl g, hgh⟩ _).set (a := ⟨g, t * 13 + 8, none⟩) ⟨Nat.le_refl g, hgh⟩ _).set (a := ⟨g, t * 13 + 9, none⟩) ⟨Nat.le_refl g, hgh⟩ _).set (a := ⟨g, t * 13 + 10, none⟩) ⟨Nat.le_refl g, hgh⟩ _).set (a := ⟨g, t * 13 + 11, none⟩) ⟨Nat.le_refl g, hgh⟩ _).set (a := ⟨g, t * 13 + 12, none⟩) ⟨Nat.le_refl g, hgh⟩ _⟩
      case measure => simp [intOf]; omega
    · obtain rfl : t = N := by omega
      go_wp2
      go_ret
      exact ⟨⟨k, by omega, rfl⟩, hk.mono (fun b e => by have e : g ≤ b ∧ b < hi := e; exact ⟨by omega, by omega⟩)⟩

set_option maxHeartbeats 1600000 in
set_option maxRecDepth 100000 in
theorem markOffice_next (cs : List Value) (x : Off) (lo hi k0 : Nat) (w : World) (hk0 : k0 ≤ 100000000000000) (hs : Off.Short x 1048576) (ho : Off.In w lo hi cs x) (hh : hi ≤ w.heap.size) :
    Calls Tryz.prog 10 #[.agg cs.toArray, .int .i64 k0] w fun e w' => (∃ k : Nat, k ≤ k0 + 40000000000000 ∧ e = .returned (.int .i64 k)) ∧ Kept w w' (fun b => lo ≤ b ∧ b < hi) := by
  obtain ⟨m1, m2, gsa, l, c, gld, C, gbk, E, rfl, hm, h1, h2, h3⟩ := ho
  obtain ⟨⟨n1, s1⟩, ⟨n2, s2⟩, ⟨n3, s3⟩⟩ := hs
  have hb0 : Below w.heap.size w (w.alloc (.cells #[.slice (some ⟨gsa, 0, none⟩) x.san x.san, .slice (some ⟨gld, 0, none⟩) x.ldn x.ldn, .slice (some ⟨gbk, 0, none⟩) x.bkn x.bkn] 35)) := push (Below.refl _ _) _
  have bO := heap_alloc_new w (.cells #[.slice (some ⟨gsa, 0, none⟩) x.san x.san, .slice (some ⟨gld, 0, none⟩) x.ldn x.ldn, .slice (some ⟨gbk, 0, none⟩) x.bkn x.bkn] 35)
  have hM := h1.made.mark n1 (fun i hi => (s1 i hi).2.2.1) (fun i hi => (s1 i hi).2.2.2)
  have HL : Hid (∀ i, i < x.san → (x.sa i).la.n ≤ 1048576) := fun i hi => (s1 i hi).2.2.1
  have HC : Hid (∀ i, i < x.san → (x.sa i).ca.n ≤ 1048576) := fun i hi => (s1 i hi).2.2.2
  have HLH : Hid (∀ i, i < x.san → c i < m1) := fun i hi => (h1.lh i hi).2
  have gl := h1.made.lo
  have gh := h1.gh
  have H2 : Hid (LoadsTo w x.ldn m1 m2 gld x.ldn x.ld C) := h2
  have H3 : Hid (BooksTo w x.bkn m2 hi gbk x.bkn x.bk E) := h3
  have HM : Hid (MarkIs w lo gsa x.san (fun i => (x.sa i).la.n) (fun i => (x.sa i).ca.n) l c) := hM
  have HS2 : Hid (LoadsShort x.ldn x.ld 1048576) := s2
  have HS3 : Hid (BooksShort x.bkn x.bk 1048576) := s3
  clear h1 h2 h3 s1 s2 s3 hM
  show Calls Tryz.prog 10 #[.agg #[.slice (some ⟨gsa, 0, none⟩) x.san x.san, .slice (some ⟨gld, 0, none⟩) x.ldn x.ldn, .slice (some ⟨gbk, 0, none⟩) x.bkn x.bkn], .int .i64 k0] w _
  go_enter Tryz.func10, Tryz.ntmps10
  go_wp2_with fail
  generalize w.alloc (.cells #[.slice (some ⟨gsa, 0, none⟩) x.san x.san, .slice (some ⟨gld, 0, none⟩) x.ldn x.ldn, .slice (some ⟨gbk, 0, none⟩) x.bkn x.bkn] 35) = V0 at hb0 bO ⊢
  refine (markSailingS_to gsa x.san m1 lo k0 _ _ l c V0 n1 hk0 HL.out HC.out gh HLH.out (HM.out.below hb0)).mono ?_
  rintro e V1 ⟨⟨k1, hk1, rfl⟩, kp1⟩
  have kq1 : Kept w V1 (fun b => lo ≤ b ∧ b < m1) := (Kept.of_below hb0).trans (kp1.mono (fun b e => by have e : gsa ≤ b ∧ b < m1 := e; exact ⟨by omega, e.2⟩))
  have bO1 := kp1.blk bO (by omega)
  have q1 := blk_cell bO1 1 _ rfl
  go_wp2_with fail
  refine (markLoadS_to gld x.ldn m1 m2 k1 x.ld C V1 n2 (by omega) HS2.out (H2.out.kept kq1 (fun b e => by omega))).mono ?_
  rintro e V2 ⟨⟨k2, hk2, rfl⟩, kp2⟩
  have kq2 : Kept w V2 (fun b => lo ≤ b ∧ b < m2) := (kq1.mono (fun b e => by have e : lo ≤ b ∧ b < m1 := e; exact ⟨by omega, by omega⟩)).trans (kp2.mono (fun b e => by have e : m1 ≤ b ∧ b < m2 := e; exact ⟨by omega, by omega⟩))
  have bO2 := kp2.blk bO1 (by omega)
  have q2 := blk_cell bO2 2 _ rfl
  clear q1 bO1 kq1 kp1 kp2 bO
  go_wp2_with fail
  refine (markBookingS_to gbk x.bkn m2 hi k2 x.bk E V2 n3 (by omega) HS3.out (H3.out.kept kq2 (fun b e => by omega))).mono ?_
  rintro e V3 ⟨⟨k3, hk3, rfl⟩, kp3⟩
  have kq3 : Kept w V3 (fun b => lo ≤ b ∧ b < hi) := (kq2.mono (fun b e => by have e : lo ≤ b ∧ b < m2 := e; exact ⟨by omega, by omega⟩)).trans (kp3.mono (fun b e => by have e : m2 ≤ b ∧ b < hi := e; exact ⟨by omega, by omega⟩))
  go_wp2
  go_ret
  exact ⟨⟨k3, by omega, rfl⟩, kq3⟩

end Go.Proofs.YtcioofnmhfehaaaGreat

namespace Go.Proofs.YtcioofnmhfehaaaGreat
open Go.RowKit

set_option maxHeartbeats 12800000 in
set_option maxRecDepth 100000 in
theorem lawPairsChanged (cs : List Value) (x : Off) (ds : List Value) (y : Off) (w : World) (hs : Off.Short x 1000000000000000) (hi : Off.Is w cs x) (ht : Off.Short y 1000000000000000) (hj : Off.Is w ds y) :
    Calls Tryz.prog 3 #[.agg cs.toArray, .agg ds.toArray] w fun e w' => e = .returned (.bool true) ∧ Below w.heap.size w w' := by
  have HI : Hid (Off.Is w cs x) := hi
  have HJ : Hid (Off.Is w ds y) := hj
  obtain ⟨asa, csa, ald, cld, abk, cbk, rfl, h1, s1, h2, s2, h3, s3⟩ := hi
  obtain ⟨asa', csa', ald', cld', abk', cbk', rfl, h4, s4, h5, s5, h6, s6⟩ := hj
  clear h1 s1 h2 s2 h3 s3 h4 s4 h5 s5 h6 s6
  have HS : Hid (Off.Short x 1000000000000000) := hs
  have HT : Hid (Off.Short y 1000000000000000) := ht
  clear hs ht
  obtain ⟨q, hq⟩ : ∃ q : Bool, q = pcOk x y := ⟨_, rfl⟩
  obtain ⟨N, hN⟩ : ∃ n, n = (pcList x y).length := ⟨_, rfl⟩
  obtain ⟨G, hG⟩ : ∃ g : Nat → Int, g = getI (pcList x y) := ⟨_, rfl⟩
  have b1 : N ≤ 18 := by rw [hN]; exact pcList_len x y
  have HU : Hid (∀ b e W, (∃ v, e = Ending.returned (.tuple #[v, .bool (pcOk x y)]) ∧ World.ownsRow W b 3 1 v (pcList x y).length (cellsI (pcList x y))) → ∃ v, e = .returned (.tuple #[v, .bool q]) ∧ W.ownsRow b 3 1 v N (intList G N)) := by rw [hq, hN, hG]; exact fun b e W h => h
  clear hq hN hG
  have HB : Below w.heap.size w ((w.alloc (.cells #[.slice asa x.san csa, .slice ald x.ldn cld, .slice abk x.bkn cbk] 26)).alloc (.cells #[.slice asa' y.san csa', .slice ald' y.ldn cld', .slice abk' y.bkn cbk'] 26)) := push (push (Below.refl _ _) _) _
  have A : ((w.alloc (.cells #[.slice asa x.san csa, .slice ald x.ldn cld, .slice abk x.bkn cbk] 26)).alloc (.cells #[.slice asa' y.san csa', .slice ald' y.ldn cld', .slice abk' y.bkn cbk'] 26)).heap[w.heap.size]? = some (.cells #[.slice asa x.san csa, .slice ald x.ldn cld, .slice abk x.bkn cbk] 26 (0, 0)) := blk_alloc (heap_alloc_new w _) _
  have B : ((w.alloc (.cells #[.slice asa x.san csa, .slice ald x.ldn cld, .slice abk x.bkn cbk] 26)).alloc (.cells #[.slice asa' y.san csa', .slice ald' y.ldn cld', .slice abk' y.bkn cbk'] 26)).heap[w.heap.size + 1]? = some (.cells #[.slice asa' y.san csa', .slice ald' y.ldn cld', .slice abk' y.bkn cbk'] 26 (0, 0)) := by simpa using heap_alloc_new (w.alloc _) _
  go_enter Tryz.func3, Tryz.ntmps3
  go_wp2_with fail
  generalize (w.alloc (.cells #[.slice asa x.san csa, .slice ald x.ldn cld, .slice abk x.bkn cbk] 26)).alloc (.cells #[.slice asa' y.san csa', .slice ald' y.ldn cld', .slice abk' y.bkn cbk'] 26) = wA at HB A B ⊢
  refine (szOffice_any [.slice asa x.san csa, .slice ald x.ldn cld, .slice abk x.bkn cbk] x _ HS.out (HI.out.below HB)).mono ?_
  rintro e w1 ⟨r, rfl, hr, hb⟩
  replace A := blk_below A hb
  replace B := blk_below B hb
  replace HB := after HB hb
  clear hb
  rcases hr with rfl | ⟨r0, rl, ht⟩
  · go_wp2
    go_ret
    exact ⟨rfl, HB⟩
  have d0 : decide (r < 0) = false := by simpa using r0
  have HS1 : Hid (Off.Short x 1048576) := ht
  clear ht HS
  have q0 := blk_cell B 0 _ rfl
  have q1 := blk_cell B 1 _ rfl
  have q2 := blk_cell B 2 _ rfl
  go_wp2_with fail
  clear q0 q1 q2
  refine (szOffice_next [.slice asa' y.san csa', .slice ald' y.ldn cld', .slice abk' y.bkn cbk'] y r _ r0 rl HT.out (HJ.out.below HB)).mono ?_
  rintro e w2 ⟨s, rfl, hr, hb⟩
  replace A := blk_below A hb
  replace B := blk_below B hb
  replace HB := after HB hb
  clear hb
  rcases hr with rfl | ⟨s0, _, ht⟩
  · go_wp2
    go_ret
    exact ⟨rfl, HB⟩
  have d1 : decide (s < 0) = false := by simpa using s0
  have HT1 : Hid (Off.Short y 1048576) := ht
  clear ht HT
  have KS : Hid (∀ w', Below w2.heap.size w2 w' → (w'.cell? ⟨w.heap.size, 0, none⟩ = some (.slice asa x.san csa) ∧ w'.cell? ⟨w.heap.size, 1, none⟩ = some (.slice ald x.ldn cld) ∧ w'.cell? ⟨w.heap.size, 2, none⟩ = some (.slice abk x.bkn cbk)) ∧ (w'.cell? ⟨w.heap.size + 1, 0, none⟩ = some (.slice asa' y.san csa') ∧ w'.cell? ⟨w.heap.size + 1, 1, none⟩ = some (.slice ald' y.ldn cld') ∧ w'.cell? ⟨w.heap.size + 1, 2, none⟩ = some (.slice abk' y.bkn cbk'))) := fun w' h => by
    have g1 := blk_below A h
    have g2 := blk_below B h
    exact ⟨⟨blk_cell g1 0 _ rfl, blk_cell g1 1 _ rfl, blk_cell g1 2 _ rfl⟩, ⟨blk_cell g2 0 _ rfl, blk_cell g2 1 _ rfl, blk_cell g2 2 _ rfl⟩⟩
  have BW : Hid (∀ w', Below w2.heap.size w2 w' → Below w.heap.size w w') := fun w' h => after HB h
  have HO1 : Hid (∀ w', Below w2.heap.size w2 w' → Calls Tryz.prog 6 #[.agg #[.slice asa x.san csa, .slice ald x.ldn cld, .slice abk x.bkn cbk]] w' fun e w2 => ∃ cs' : List Value, e = .returned (.agg cs'.toArray) ∧ Off.In w2 w'.heap.size w2.heap.size cs' x ∧ Below w'.heap.size w' w2) := fun w' h => toOffice_any [.slice asa x.san csa, .slice ald x.ldn cld, .slice abk x.bkn cbk] x w' HS1.out (HI.out.below (BW.out _ h))
  have HO2 : Hid (∀ w', Below w2.heap.size w2 w' → Calls Tryz.prog 6 #[.agg #[.slice asa' y.san csa', .slice ald' y.ldn cld', .slice abk' y.bkn cbk']] w' fun e w2 => ∃ cs' : List Value, e = .returned (.agg cs'.toArray) ∧ Off.In w2 w'.heap.size w2.heap.size cs' y ∧ Below w'.heap.size w' w2) := fun w' h => toOffice_any [.slice asa' y.san csa', .slice ald' y.ldn cld', .slice abk' y.bkn cbk'] y w' HT1.out (HJ.out.below (BW.out _ h))
  go_upto_region 8 with fail
  go_cut [6, 7] (fun p b wx => ∃ Zq, Zq = wx ∧ b = .bool q ∧ World.ownsRow Zq w2.heap.size 3 1 p N (intList G N) ∧ Below w2.heap.size w2 Zq)
  case first =>
    go_region_held3 (fun w' => (w'.cell? ⟨w.heap.size, 0, none⟩ = some (.slice asa x.san csa) ∧ w'.cell? ⟨w.heap.size, 1, none⟩ = some (.slice ald x.ldn cld) ∧ w'.cell? ⟨w.heap.size, 2, none⟩ = some (.slice abk x.bkn cbk)) ∧ (w'.cell? ⟨w.heap.size + 1, 0, none⟩ = some (.slice asa' y.san csa') ∧ w'.cell? ⟨w.heap.size + 1, 1, none⟩ = some (.slice ald' y.ldn cld') ∧ w'.cell? ⟨w.heap.size + 1, 2, none⟩ = some (.slice abk' y.bkn cbk')))
      ((refine KS.out _ ?_; exact (by repeat (first | exact Below.refl _ _ | refine Below.drew ?_ | refine after ?_ hb10 | refine after ?_ hb9 | refine after ?_ hb8))))
      (first | (go_at_call 6; (with_reducible refine Calls.mono (HO1.out _ ?_) ?_); (focus exact (by repeat (first | exact Below.refl _ _ | refine Below.drew ?_ | refine after ?_ hb10 | refine after ?_ hb9 | refine after ?_ hb8))); rintro e w8 ⟨cs8, rfl, hin8, hb8⟩) | (go_at_call 6; (with_reducible refine Calls.mono (HO2.out _ ?_) ?_); (focus exact (by repeat (first | exact Below.refl _ _ | refine Below.drew ?_ | refine after ?_ hb10 | refine after ?_ hb9 | refine after ?_ hb8))); rintro e w9 ⟨cs9, rfl, hin9, hb9⟩) | (go_at_call 5; refine Calls.mono (specPc_any x y cs8 cs9 _ HS1.out HT1.out ?_ ?_) ?_; (focus (first | exact hin8.is HS1.out | exact (hin8.below hb9).is HS1.out)); (focus (first | exact hin9.is HT1.out | exact (hin9.below hb8).is HT1.out)); rintro e w10 ⟨hu, hb10⟩; obtain ⟨vv, rfl, vo⟩ := HU.out _ _ _ hu))
    all_goals
      go_wp2
      go_meet
      exact ⟨_, rfl, rfl, own_base vo (show w2.heap.size ≤ _ from (Below.size (by repeat (first | exact Below.refl _ _ | refine Below.drew ?_ | refine after ?_ hb10 | refine after ?_ hb9 | refine after ?_ hb8)))), (by repeat (first | exact Below.refl _ _ | refine Below.drew ?_ | refine after ?_ hb10 | refine after ?_ hb9 | refine after ?_ hb8))⟩
  case rest =>
  obtain ⟨w3, rfl, rfl, vw, hb⟩ := hcut
  clear KS BW HO1 HO2
  have HW0 : Hid (w.heap.size ≤ w2.heap.size) := HB.size
  have HS9 : Hid (w.heap.size + 1 < w3.heap.size) := by have h2 := blk_lt B; have h3 := hb.size; show w.heap.size + 1 < w3.heap.size; omega
  have HW1 : Hid (w2.heap.size ≤ w3.heap.size) := hb.size
  replace A := blk_below A hb
  replace B := blk_below B hb
  replace HB := after HB hb
  clear hb
  obtain ⟨aw, cw, rfl, _⟩ := own_form vw
  have HWL : Hid (∀ b, (Value.slice aw N cw).ownBlock = some b → w.heap.size ≤ b ∧ b < w3.heap.size) := fun b hb => by have := World.ownsRow.lt vw b hb; have := HW0.out; exact ⟨by omega, by omega⟩
  have q0 := blk_cell A 0 _ rfl
  have q1 := blk_cell A 1 _ rfl
  have q2 := blk_cell A 2 _ rfl
  go_wp2_with fail
  clear q0 q1 q2
  refine (toOffice_any [.slice asa x.san csa, .slice ald x.ldn cld, .slice abk x.bkn cbk] x _ HS1.out (HI.out.below HB)).mono ?_
  rintro e w4 ⟨cs4, rfl, hin4, hb⟩
  have HS4 : Hid (w3.heap.size ≤ w4.heap.size) := hb.size
  replace A := blk_below A hb
  replace B := blk_below B hb
  replace HB := after HB hb
  replace vw := own_below hb vw
  clear hb
  have HIN4 : Hid (Off.In w4 w3.heap.size w4.heap.size cs4 x) := hin4
  obtain ⟨m1, m2, gsa, l, c, gld, C, gbk, E, rfl, _, _, _, _⟩ := hin4
  unfold whole
  have hb : Below w4.heap.size w4 (w4.alloc (.cells #[.slice (some ⟨gsa, 0, none⟩) x.san x.san, .slice (some ⟨gld, 0, none⟩) x.ldn x.ldn, .slice (some ⟨gbk, 0, none⟩) x.bkn x.bkn] 35)) := push (Below.refl _ _) _
  have X := heap_alloc_new w4 (.cells #[.slice (some ⟨gsa, 0, none⟩) x.san x.san, .slice (some ⟨gld, 0, none⟩) x.ldn x.ldn, .slice (some ⟨gbk, 0, none⟩) x.bkn x.bkn] 35)
  have IN : Off.In (w4.alloc (.cells #[.slice (some ⟨gsa, 0, none⟩) x.san x.san, .slice (some ⟨gld, 0, none⟩) x.ldn x.ldn, .slice (some ⟨gbk, 0, none⟩) x.bkn x.bkn] 35)) w3.heap.size w4.heap.size [.slice (some ⟨gsa, 0, none⟩) x.san x.san, .slice (some ⟨gld, 0, none⟩) x.ldn x.ldn, .slice (some ⟨gbk, 0, none⟩) x.bkn x.bkn] x := HIN4.out.below hb
  have HS5 : Hid (w4.heap.size < (w4.alloc (.cells #[.slice (some ⟨gsa, 0, none⟩) x.san x.san, .slice (some ⟨gld, 0, none⟩) x.ldn x.ldn, .slice (some ⟨gbk, 0, none⟩) x.bkn x.bkn] 35)).heap.size) := by show w4.heap.size < (w4.alloc (.cells #[.slice (some ⟨gsa, 0, none⟩) x.san x.san, .slice (some ⟨gld, 0, none⟩) x.ldn x.ldn, .slice (some ⟨gbk, 0, none⟩) x.bkn x.bkn] 35)).heap.size; simp
  replace A := blk_below A hb
  replace B := blk_below B hb
  replace HB := after HB hb
  replace vw := own_below hb vw
  clear hb
  clear HIN4
  have q0 := blk_cell B 0 _ rfl
  have q1 := blk_cell B 1 _ rfl
  have q2 := blk_cell B 2 _ rfl
  go_upto_region 10 with fail
  generalize w4.alloc (.cells #[.slice (some ⟨gsa, 0, none⟩) x.san x.san, .slice (some ⟨gld, 0, none⟩) x.ldn x.ldn, .slice (some ⟨gbk, 0, none⟩) x.bkn x.bkn] 35) = w5 at A B HB X IN vw HS5 q0 q1 q2 ⊢
  go_wp2_with fail
  clear q0 q1 q2
  refine (toOffice_any [.slice asa' y.san csa', .slice ald' y.ldn cld', .slice abk' y.bkn cbk'] y _ HT1.out (HJ.out.below HB)).mono ?_
  rintro e w6 ⟨cs6, rfl, hin6, hb⟩
  have HS6 : Hid (w5.heap.size ≤ w6.heap.size) := hb.size
  replace A := blk_below A hb
  replace B := blk_below B hb
  replace HB := after HB hb
  replace vw := own_below hb vw
  replace X := blk_below X hb
  replace IN := IN.below hb
  clear hb
  have HIN6 : Hid (Off.In w6 w5.heap.size w6.heap.size cs6 y) := hin6
  obtain ⟨m1', m2', gsa', l', c', gld', C', gbk', E', rfl, _, _, _, _⟩ := hin6
  unfold whole
  have hb : Below w6.heap.size w6 (w6.alloc (.cells #[.slice (some ⟨gsa', 0, none⟩) y.san y.san, .slice (some ⟨gld', 0, none⟩) y.ldn y.ldn, .slice (some ⟨gbk', 0, none⟩) y.bkn y.bkn] 35)) := push (Below.refl _ _) _
  have Y := heap_alloc_new w6 (.cells #[.slice (some ⟨gsa', 0, none⟩) y.san y.san, .slice (some ⟨gld', 0, none⟩) y.ldn y.ldn, .slice (some ⟨gbk', 0, none⟩) y.bkn y.bkn] 35)
  have JN : Off.In (w6.alloc (.cells #[.slice (some ⟨gsa', 0, none⟩) y.san y.san, .slice (some ⟨gld', 0, none⟩) y.ldn y.ldn, .slice (some ⟨gbk', 0, none⟩) y.bkn y.bkn] 35)) w5.heap.size w6.heap.size [.slice (some ⟨gsa', 0, none⟩) y.san y.san, .slice (some ⟨gld', 0, none⟩) y.ldn y.ldn, .slice (some ⟨gbk', 0, none⟩) y.bkn y.bkn] y := HIN6.out.below hb
  have HS7 : Hid (w6.heap.size < (w6.alloc (.cells #[.slice (some ⟨gsa', 0, none⟩) y.san y.san, .slice (some ⟨gld', 0, none⟩) y.ldn y.ldn, .slice (some ⟨gbk', 0, none⟩) y.bkn y.bkn] 35)).heap.size) := by show w6.heap.size < (w6.alloc (.cells #[.slice (some ⟨gsa', 0, none⟩) y.san y.san, .slice (some ⟨gld', 0, none⟩) y.ldn y.ldn, .slice (some ⟨gbk', 0, none⟩) y.bkn y.bkn] 35)).heap.size; simp
  replace A := blk_below A hb
  replace B := blk_below B hb
  replace HB := after HB hb
  replace vw := own_below hb vw
  replace X := blk_below X hb
  replace IN := IN.below hb
  clear hb
  clear HIN6
  have q0 := blk_cell X 0 _ rfl
  have q1 := blk_cell X 1 _ rfl
  have q2 := blk_cell X 2 _ rfl
  go_upto_region 11 with fail
  generalize w6.alloc (.cells #[.slice (some ⟨gsa', 0, none⟩) y.san y.san, .slice (some ⟨gld', 0, none⟩) y.ldn y.ldn, .slice (some ⟨gbk', 0, none⟩) y.bkn y.bkn] 35) = w7 at A B HB X IN Y JN vw HS7 q0 q1 q2 ⊢
  have p0 := blk_cell Y 0 _ rfl
  have p1 := blk_cell Y 1 _ rfl
  have p2 := blk_cell Y 2 _ rfl
  go_wp2_with fail
  clear q0 q1 q2 p0 p1 p2
  refine (implPc_any x y [.slice (some ⟨gsa, 0, none⟩) x.san x.san, .slice (some ⟨gld, 0, none⟩) x.ldn x.ldn, .slice (some ⟨gbk, 0, none⟩) x.bkn x.bkn] [.slice (some ⟨gsa', 0, none⟩) y.san y.san, .slice (some ⟨gld', 0, none⟩) y.ldn y.ldn, .slice (some ⟨gbk', 0, none⟩) y.bkn y.bkn] _ HS1.out HT1.out (IN.is HS1.out) (JN.is HT1.out)).mono ?_
  rintro e w8 ⟨hu, hb⟩
  obtain ⟨gv, rfl, vg⟩ := HU.out _ _ _ hu
  clear hu
  replace A := blk_below A hb
  replace B := blk_below B hb
  replace HB := after HB hb
  replace vw := own_below hb vw
  replace X := blk_below X hb
  replace IN := IN.below hb
  replace Y := blk_below Y hb
  replace JN := JN.below hb
  clear hb
  obtain ⟨ag, cg, rfl, _⟩ := own_form vg
  have HGL : Hid (∀ b, (Value.slice ag N cg).ownBlock = some b → w7.heap.size ≤ b) := fun b hb => (World.ownsRow.lt vg b hb).1
  have hne : (q != q) = false := by simp
  go_wp2_with fail
  refine (eqIntS_same ag aw N cg cw G _ (by omega) (own_ints vg) (own_ints vw)).mono ?_
  rintro e w9 ⟨rfl, hb⟩
  replace A := blk_below A hb
  replace B := blk_below B hb
  replace HB := after HB hb
  replace vw := own_below hb vw
  replace X := blk_below X hb
  replace IN := IN.below hb
  replace Y := blk_below Y hb
  replace JN := JN.below hb
  replace vg := own_below hb vg
  clear hb
  go_upto_region 14 with fail
  have KS : Hid (∀ w', Below w9.heap.size w9 w' → (w'.cell? ⟨w.heap.size, 0, none⟩ = some (.slice asa x.san csa) ∧ w'.cell? ⟨w.heap.size, 1, none⟩ = some (.slice ald x.ldn cld) ∧ w'.cell? ⟨w.heap.size, 2, none⟩ = some (.slice abk x.bkn cbk)) ∧ (w'.cell? ⟨w4.heap.size, 0, none⟩ = some (.slice (some ⟨gsa, 0, none⟩) x.san x.san) ∧ w'.cell? ⟨w4.heap.size, 1, none⟩ = some (.slice (some ⟨gld, 0, none⟩) x.ldn x.ldn) ∧ w'.cell? ⟨w4.heap.size, 2, none⟩ = some (.slice (some ⟨gbk, 0, none⟩) x.bkn x.bkn))) := fun w' h => by
    have g1 := blk_below A h
    have g2 := blk_below X h
    exact ⟨⟨blk_cell g1 0 _ rfl, blk_cell g1 1 _ rfl, blk_cell g1 2 _ rfl⟩, ⟨blk_cell g2 0 _ rfl, blk_cell g2 1 _ rfl, blk_cell g2 2 _ rfl⟩⟩
  have BW : Hid (∀ w', Below w9.heap.size w9 w' → Below w.heap.size w w') := fun w' h => after HB h
  have HIS : Hid (∀ w', Below w9.heap.size w9 w' → Off.Is w' [.slice (some ⟨gsa, 0, none⟩) x.san x.san, .slice (some ⟨gld, 0, none⟩) x.ldn x.ldn, .slice (some ⟨gbk, 0, none⟩) x.bkn x.bkn] x) := fun w' h => (IN.is HS1.out).below h
  go_region_held3 (fun w' => (w'.cell? ⟨w.heap.size, 0, none⟩ = some (.slice asa x.san csa) ∧ w'.cell? ⟨w.heap.size, 1, none⟩ = some (.slice ald x.ldn cld) ∧ w'.cell? ⟨w.heap.size, 2, none⟩ = some (.slice abk x.bkn cbk)) ∧ (w'.cell? ⟨w4.heap.size, 0, none⟩ = some (.slice (some ⟨gsa, 0, none⟩) x.san x.san) ∧ w'.cell? ⟨w4.heap.size, 1, none⟩ = some (.slice (some ⟨gld, 0, none⟩) x.ldn x.ldn) ∧ w'.cell? ⟨w4.heap.size, 2, none⟩ = some (.slice (some ⟨gbk, 0, none⟩) x.bkn x.bkn)))
    ((refine KS.out _ ?_; exact (by repeat (first | exact Below.refl _ _ | refine Below.drew ?_ | refine after ?_ hb19 | refine after ?_ hb18))))
    (first | (go_at_call 6; refine Calls.mono (toOffice_any [.slice asa x.san csa, .slice ald x.ldn cld, .slice abk x.bkn cbk] x _ HS1.out (HI.out.below (BW.out _ (by repeat (first | exact Below.refl _ _ | refine Below.drew ?_ | refine after ?_ hb19 | refine after ?_ hb18))))) ?_; rintro e w18 ⟨cs18, rfl, hin18, hb18⟩) | (go_at_call 9; refine Calls.mono (eqOffice_same [.slice (some ⟨gsa, 0, none⟩) x.san x.san, .slice (some ⟨gld, 0, none⟩) x.ldn x.ldn, .slice (some ⟨gbk, 0, none⟩) x.bkn x.bkn] cs18 x _ HS1.out (HIS.out _ (by repeat (first | exact Below.refl _ _ | refine Below.drew ?_ | refine after ?_ hb19 | refine after ?_ hb18))) (hin18.is HS1.out)) ?_; rintro e w19 ⟨rfl, hb19⟩))
  have hb : Below w9.heap.size w9 w19 := (by repeat (first | exact Below.refl _ _ | refine Below.drew ?_ | refine after ?_ hb19 | refine after ?_ hb18))
  clear hin18 hb18 hb19 KS BW HIS
  replace A := blk_below A hb
  replace B := blk_below B hb
  replace HB := after HB hb
  replace vw := own_below hb vw
  replace X := blk_below X hb
  replace IN := IN.below hb
  replace Y := blk_below Y hb
  replace JN := JN.below hb
  replace vg := own_below hb vg
  clear hb
  go_upto_region 16 with fail
  have KS : Hid (∀ w', Below w19.heap.size w19 w' → (w'.cell? ⟨w.heap.size + 1, 0, none⟩ = some (.slice asa' y.san csa') ∧ w'.cell? ⟨w.heap.size + 1, 1, none⟩ = some (.slice ald' y.ldn cld') ∧ w'.cell? ⟨w.heap.size + 1, 2, none⟩ = some (.slice abk' y.bkn cbk')) ∧ (w'.cell? ⟨w6.heap.size, 0, none⟩ = some (.slice (some ⟨gsa', 0, none⟩) y.san y.san) ∧ w'.cell? ⟨w6.heap.size, 1, none⟩ = some (.slice (some ⟨gld', 0, none⟩) y.ldn y.ldn) ∧ w'.cell? ⟨w6.heap.size, 2, none⟩ = some (.slice (some ⟨gbk', 0, none⟩) y.bkn y.bkn))) := fun w' h => by
    have g1 := blk_below B h
    have g2 := blk_below Y h
    exact ⟨⟨blk_cell g1 0 _ rfl, blk_cell g1 1 _ rfl, blk_cell g1 2 _ rfl⟩, ⟨blk_cell g2 0 _ rfl, blk_cell g2 1 _ rfl, blk_cell g2 2 _ rfl⟩⟩
  have BW : Hid (∀ w', Below w19.heap.size w19 w' → Below w.heap.size w w') := fun w' h => after HB h
  have HIS : Hid (∀ w', Below w19.heap.size w19 w' → Off.Is w' [.slice (some ⟨gsa', 0, none⟩) y.san y.san, .slice (some ⟨gld', 0, none⟩) y.ldn y.ldn, .slice (some ⟨gbk', 0, none⟩) y.bkn y.bkn] y) := fun w' h => (JN.is HT1.out).below h
  go_region_held3 (fun w' => (w'.cell? ⟨w.heap.size + 1, 0, none⟩ = some (.slice asa' y.san csa') ∧ w'.cell? ⟨w.heap.size + 1, 1, none⟩ = some (.slice ald' y.ldn cld') ∧ w'.cell? ⟨w.heap.size + 1, 2, none⟩ = some (.slice abk' y.bkn cbk')) ∧ (w'.cell? ⟨w6.heap.size, 0, none⟩ = some (.slice (some ⟨gsa', 0, none⟩) y.san y.san) ∧ w'.cell? ⟨w6.heap.size, 1, none⟩ = some (.slice (some ⟨gld', 0, none⟩) y.ldn y.ldn) ∧ w'.cell? ⟨w6.heap.size, 2, none⟩ = some (.slice (some ⟨gbk', 0, none⟩) y.bkn y.bkn)))
    ((refine KS.out _ ?_; exact (by repeat (first | exact Below.refl _ _ | refine Below.drew ?_ | refine after ?_ hb19 | refine after ?_ hb18))))
    (first | (go_at_call 6; refine Calls.mono (toOffice_any [.slice asa' y.san csa', .slice ald' y.ldn cld', .slice abk' y.bkn cbk'] y _ HT1.out (HJ.out.below (BW.out _ (by repeat (first | exact Below.refl _ _ | refine Below.drew ?_ | refine after ?_ hb19 | refine after ?_ hb18))))) ?_; rintro e w18 ⟨cs18, rfl, hin18, hb18⟩) | (go_at_call 9; refine Calls.mono (eqOffice_same [.slice (some ⟨gsa', 0, none⟩) y.san y.san, .slice (some ⟨gld', 0, none⟩) y.ldn y.ldn, .slice (some ⟨gbk', 0, none⟩) y.bkn y.bkn] cs18 y _ HT1.out (HIS.out _ (by repeat (first | exact Below.refl _ _ | refine Below.drew ?_ | refine after ?_ hb19 | refine after ?_ hb18))) (hin18.is HT1.out)) ?_; rintro e w20 ⟨rfl, hb19⟩))
  have hb : Below w19.heap.size w19 w20 := (by repeat (first | exact Below.refl _ _ | refine Below.drew ?_ | refine after ?_ hb19 | refine after ?_ hb18))
  clear hin18 hb18 hb19 KS BW HIS
  replace A := blk_below A hb
  replace B := blk_below B hb
  replace HB := after HB hb
  replace vw := own_below hb vw
  replace X := blk_below X hb
  replace IN := IN.below hb
  replace Y := blk_below Y hb
  replace JN := JN.below hb
  replace vg := own_below hb vg
  clear hb
  have q0 := blk_cell X 0 _ rfl
  have q1 := blk_cell X 1 _ rfl
  have q2 := blk_cell X 2 _ rfl
  go_wp2_with fail
  clear q0 q1 q2
  refine (markOffice_next [.slice (some ⟨gsa, 0, none⟩) x.san x.san, .slice (some ⟨gld, 0, none⟩) x.ldn x.ldn, .slice (some ⟨gbk, 0, none⟩) x.bkn x.bkn] x w3.heap.size w4.heap.size 1 _ (by omega) HS1.out IN (by have := blk_lt X; omega)).mono ?_
  rintro e w21 ⟨⟨k, hk0, rfl⟩, kp⟩
  have HKX : Hid (∀ b, (w3.heap.size ≤ b ∧ b < w4.heap.size) → w3.heap.size ≤ b ∧ b < w4.heap.size) := fun b h => h
  replace A := kp.blk A (fun e => by have := HKX.out _ e; have := HS9.out; omega)
  replace B := kp.blk B (fun e => by have := HKX.out _ e; have := HS9.out; omega)
  replace HB := Kept.below HB HB.size kp (fun b e => by have := HKX.out _ e; have := HS9.out; omega)
  replace Y := kp.blk Y (fun e => by have := HKX.out _ e; have := HS5.out; have := HS6.out; omega)
  replace JN := JN.kept kp (fun b e => by have := HKX.out _ e; have := HS5.out; left; omega)
  replace vw := kp.own vw (fun b hb e => by have := HKX.out _ e; have := HWL.out b hb; omega)
  replace vg := kp.own vg (fun b hb e => by have := HKX.out _ e; have := HGL.out b hb; have := HS5.out; have := HS6.out; have := HS7.out; omega)
  clear kp IN X
  have q0 := blk_cell Y 0 _ rfl
  have q1 := blk_cell Y 1 _ rfl
  have q2 := blk_cell Y 2 _ rfl
  go_wp2_with fail
  clear q0 q1 q2
  refine (markOffice_next [.slice (some ⟨gsa', 0, none⟩) y.san y.san, .slice (some ⟨gld', 0, none⟩) y.ldn y.ldn, .slice (some ⟨gbk', 0, none⟩) y.bkn y.bkn] y w5.heap.size w6.heap.size k _ (by omega) HT1.out JN (by have := blk_lt Y; omega)).mono ?_
  rintro e w22 ⟨⟨k', _, rfl⟩, kp⟩
  have HKY : Hid (∀ b, (w5.heap.size ≤ b ∧ b < w6.heap.size) → w5.heap.size ≤ b ∧ b < w6.heap.size) := fun b h => h
  replace A := kp.blk A (fun e => by have := HKY.out _ e; have := HS9.out; have := HS4.out; have := HS5.out; omega)
  replace B := kp.blk B (fun e => by have := HKY.out _ e; have := HS9.out; have := HS4.out; have := HS5.out; omega)
  replace HB := Kept.below HB HB.size kp (fun b e => by have := HKY.out _ e; have := HS9.out; have := HS4.out; have := HS5.out; omega)
  replace vw := kp.own vw (fun b hb e => by have := HKY.out _ e; have := HWL.out b hb; have := HS4.out; have := HS5.out; omega)
  replace vg := kp.own vg (fun b hb e => by have := HKY.out _ e; have := HGL.out b hb; have := HS7.out; omega)
  clear kp JN Y
  have dk : decide ((k' : Int) < 0) = false := by simp
  go_wp2_with fail
  refine (eqIntS_same ag aw N cg cw G _ (by omega) (own_ints vg) (own_ints vw)).mono ?_
  rintro e w23 ⟨rfl, hb⟩
  replace A := blk_below A hb
  replace B := blk_below B hb
  replace HB := after HB hb
  replace vw := own_below hb vw
  replace vg := own_below hb vg
  clear hb
  go_wp2_with fail
  refine (markIntS_own ag N cg _ G 1 _ (by omega) (by omega) (by omega) vg).mono ?_
  rintro e w24 ⟨rfl, vm, kp⟩
  have HGK : Hid (∀ b, (∃ g, ag = some ⟨g, 0, none⟩ ∧ b = g) → (Value.slice ag N cg).ownBlock = some b) := by
    rintro b ⟨g, e1, e2⟩
    rw [e1, e2]; rfl
  have HS10 : Hid (w3.heap.size ≤ w7.heap.size) := by have := HS4.out; have := HS5.out; have := HS6.out; have := HS7.out; show w3.heap.size ≤ w7.heap.size; omega
  replace A := kp.blk A (fun e => by have := HGL.out _ (HGK.out _ e); have := HS9.out; have := HS10.out; omega)
  replace B := kp.blk B (fun e => by have := HGL.out _ (HGK.out _ e); have := HS9.out; have := HS10.out; omega)
  replace HB := Kept.below HB HB.size kp (fun b e => by have := HGL.out _ (HGK.out _ e); have := HS9.out; have := HS10.out; omega)
  replace vw := kp.own vw (fun b hb e => by have := HGL.out _ (HGK.out _ e); have := HWL.out b hb; have := HS10.out; omega)
  clear kp vg
  have dm : decide ((1 : Int) + (N : Int) < 0) = false := by simp; omega
  go_wp2_with fail
  refine (heldIntS_yes ag N cg 1 _ (by omega) (by omega) (by omega) (own_ints vm)).mono ?_
  rintro e w' ⟨rfl, hw'⟩
  have hwx := hw'.symm
  clear hw'
  subst hwx
  have KS : Hid (∀ w', Below w24.heap.size w24 w' → (w'.cell? ⟨w.heap.size, 0, none⟩ = some (.slice asa x.san csa) ∧ w'.cell? ⟨w.heap.size, 1, none⟩ = some (.slice ald x.ldn cld) ∧ w'.cell? ⟨w.heap.size, 2, none⟩ = some (.slice abk x.bkn cbk)) ∧ (w'.cell? ⟨w.heap.size + 1, 0, none⟩ = some (.slice asa' y.san csa') ∧ w'.cell? ⟨w.heap.size + 1, 1, none⟩ = some (.slice ald' y.ldn cld') ∧ w'.cell? ⟨w.heap.size + 1, 2, none⟩ = some (.slice abk' y.bkn cbk'))) := fun w' h => by
    have g1 := blk_below A h
    have g2 := blk_below B h
    exact ⟨⟨blk_cell g1 0 _ rfl, blk_cell g1 1 _ rfl, blk_cell g1 2 _ rfl⟩, ⟨blk_cell g2 0 _ rfl, blk_cell g2 1 _ rfl, blk_cell g2 2 _ rfl⟩⟩
  have BW : Hid (∀ w', Below w24.heap.size w24 w' → Below w.heap.size w w') := fun w' h => after HB h
  have HO1 : Hid (∀ w', Below w24.heap.size w24 w' → Calls Tryz.prog 6 #[.agg #[.slice asa x.san csa, .slice ald x.ldn cld, .slice abk x.bkn cbk]] w' fun e w2 => ∃ cs' : List Value, e = .returned (.agg cs'.toArray) ∧ Off.In w2 w'.heap.size w2.heap.size cs' x ∧ Below w'.heap.size w' w2) := fun w' h => toOffice_any [.slice asa x.san csa, .slice ald x.ldn cld, .slice abk x.bkn cbk] x w' HS1.out (HI.out.below (BW.out _ h))
  have HO2 : Hid (∀ w', Below w24.heap.size w24 w' → Calls Tryz.prog 6 #[.agg #[.slice asa' y.san csa', .slice ald' y.ldn cld', .slice abk' y.bkn cbk']] w' fun e w2 => ∃ cs' : List Value, e = .returned (.agg cs'.toArray) ∧ Off.In w2 w'.heap.size w2.heap.size cs' y ∧ Below w'.heap.size w' w2) := fun w' h => toOffice_any [.slice asa' y.san csa', .slice ald' y.ldn cld', .slice abk' y.bkn cbk'] y w' HT1.out (HJ.out.below (BW.out _ h))
  go_upto_region 31 with fail
  go_cut [15, 16] (fun p b wx => ∃ Zq, Zq = wx ∧ b = .bool q ∧ World.ownsRow Zq w24.heap.size 3 1 p N (intList G N) ∧ Below w24.heap.size w24 Zq)
  case first =>
    go_region_held3 (fun w' => (w'.cell? ⟨w.heap.size, 0, none⟩ = some (.slice asa x.san csa) ∧ w'.cell? ⟨w.heap.size, 1, none⟩ = some (.slice ald x.ldn cld) ∧ w'.cell? ⟨w.heap.size, 2, none⟩ = some (.slice abk x.bkn cbk)) ∧ (w'.cell? ⟨w.heap.size + 1, 0, none⟩ = some (.slice asa' y.san csa') ∧ w'.cell? ⟨w.heap.size + 1, 1, none⟩ = some (.slice ald' y.ldn cld') ∧ w'.cell? ⟨w.heap.size + 1, 2, none⟩ = some (.slice abk' y.bkn cbk')))
      ((refine KS.out _ ?_; exact (by repeat (first | exact Below.refl _ _ | refine Below.drew ?_ | refine after ?_ hb10 | refine after ?_ hb9 | refine after ?_ hb8))))
      (first | (go_at_call 6; (with_reducible refine Calls.mono (HO1.out _ ?_) ?_); (focus exact (by repeat (first | exact Below.refl _ _ | refine Below.drew ?_ | refine after ?_ hb10 | refine after ?_ hb9 | refine after ?_ hb8))); rintro e w8 ⟨cs8, rfl, hin8, hb8⟩) | (go_at_call 6; (with_reducible refine Calls.mono (HO2.out _ ?_) ?_); (focus exact (by repeat (first | exact Below.refl _ _ | refine Below.drew ?_ | refine after ?_ hb10 | refine after ?_ hb9 | refine after ?_ hb8))); rintro e w9 ⟨cs9, rfl, hin9, hb9⟩) | (go_at_call 7; refine Calls.mono (implPc_any x y cs8 cs9 _ HS1.out HT1.out ?_ ?_) ?_; (focus (first | exact hin8.is HS1.out | exact (hin8.below hb9).is HS1.out)); (focus (first | exact hin9.is HT1.out | exact (hin9.below hb8).is HT1.out)); rintro e w10 ⟨hu, hb10⟩; obtain ⟨vv, rfl, vo⟩ := HU.out _ _ _ hu))
    all_goals
      go_wp2
      go_meet
      exact ⟨_, rfl, rfl, own_base vo (show w24.heap.size ≤ _ from (Below.size (by repeat (first | exact Below.refl _ _ | refine Below.drew ?_ | refine after ?_ hb10 | refine after ?_ hb9 | refine after ?_ hb8)))), (by repeat (first | exact Below.refl _ _ | refine Below.drew ?_ | refine after ?_ hb10 | refine after ?_ hb9 | refine after ?_ hb8))⟩
  case rest =>
  obtain ⟨w25, rfl, rfl, vk, hb⟩ := hcut
  clear KS BW HO1 HO2
  replace A := blk_below A hb
  replace B := blk_below B hb
  replace HB := after HB hb
  replace vw := own_below hb vw
  replace vm := own_below hb vm
  clear hb
  obtain ⟨ak, ck, rfl, _⟩ := own_form vk
  go_wp2_with fail
  refine (eqIntS_same ak aw N ck cw G _ (by omega) (own_ints vk) (own_ints vw)).mono ?_
  rintro e w26 ⟨rfl, hb⟩
  replace A := blk_below A hb
  replace B := blk_below B hb
  replace HB := after HB hb
  replace vw := own_below hb vw
  replace vm := own_below hb vm
  replace vk := own_below hb vk
  clear hb
  clear vk vw
  go_wp2_with fail
  refine (heldIntS_yes ag N cg 1 _ (by omega) (by omega) (by omega) (own_ints vm)).mono ?_
  rintro e w' ⟨rfl, hw'⟩
  have hwx := hw'.symm
  clear hw'
  subst hwx
  go_wp2
  go_ret
  exact ⟨rfl, HB⟩

end Go.Proofs.YtcioofnmhfehaaaGreat

namespace Go.Proofs.YtcioofnmhfehaaaGreat
open Go.ChangeShapes Go.WideShapes Go.ChangeAt Go.RowKit Go.Deep

section
variable {H : Type} {enc : TypeId × Value → H} {P : Program} {w : World} {base : Nat} {spare : Nat → Bool} {held : Bool}

/-- How a list's datum tells its length. -/
def LenIs (d : DataW H) (n : Nat) : Prop := (d = .nil ∧ n = 0) ∨ ∃ els rest, d = .slice els rest ∧ els.length = n

theorem view_ints {t e fuel : Nat} {v : Value} {x : DataW H × List MemPlace} (ht : P.underlying t = some (.slice e)) (he : P.underlying e = some (.int .i64)) (hc : P.cellsOf e = 1)
    (h : DataW.trod enc P w base spare held fuel t [v] = some x) :
    ∃ ao n cap F, v = .slice ao n cap ∧ n ≤ cap ∧ cap ≤ maxLen ∧ (ao = none → n = 0 ∧ cap = 0) ∧ IntsAt w ao n F ∧ LenIs x.1 n := by
  rcases open_ints ht he hc h with ⟨hcs, hx⟩ | ⟨a, n, cap, zs, hcs, _, hl, hm, hz, hx, hcell, _⟩
  · simp at hcs
    subst hcs
    refine ⟨none, 0, 0, fun _ => 0, rfl, Nat.le_refl _, Nat.zero_le _, fun _ => ⟨rfl, rfl⟩, fun k hk => by omega, .inl ⟨by rw [hx], rfl⟩⟩
  · simp at hcs
    subst hcs
    have hzl : n ≤ zs.length := by rw [hz]; split <;> omega
    refine ⟨some a, n, cap, fun k => zs.getD k 0, rfl, hl, hm, (fun h => by cases h), (fun k hk => ?_), .inr ⟨_, _, by rw [hx], by simp [lits]; omega⟩⟩
    obtain ⟨b, off, rfl, hc2⟩ := ints_at hcell (by omega)
    exact ⟨b, off, rfl, hc2 k (by omega)⟩

theorem view_slots {t e fuel ti tb : Nat} {f0 f1 f2 : Field} {v : Value} {x : DataW H × List MemPlace} (ht : P.underlying t = some (.slice e)) (he : P.underlying e = some (.struct #[f0, f1, f2])) (hc : P.cellsOf e = 3)
    (t0 : f0.type = ti) (t1 : f1.type = tb) (t2 : f2.type = ti) (o0 : f0.offset = 0) (o1 : f1.offset = 1) (o2 : f2.offset = 2)
    (hi : P.underlying ti = some (.int .i64)) (hb : P.underlying tb = some .bool) (ci : P.cellsOf ti = 1) (cb : P.cellsOf tb = 1)
    (h : DataW.trod enc P w base spare held fuel t [v] = some x) :
    ∃ ao n cap A U V, v = .slice ao n cap ∧ n ≤ cap ∧ cap ≤ maxLen ∧ (ao = none → n = 0 ∧ cap = 0) ∧ SlotsAt w ao n A U V ∧ LenIs x.1 n := by
  rcases open_slice ht h with ⟨hcs, hx⟩ | ⟨a, n, cap, m, fl, D, Pl, hcs, _, hl, hm, hmm, hx, hcell⟩
  · simp at hcs
    subst hcs
    refine ⟨none, 0, 0, fun _ => 0, fun _ => false, fun _ => 0, rfl, Nat.le_refl _, Nat.zero_le _, fun _ => ⟨rfl, rfl⟩, fun k hk => by omega, .inl ⟨by rw [hx], rfl⟩⟩
  · simp at hcs
    subst hcs
    have hnm : n ≤ m := by rw [hmm]; split <;> omega
    by_cases hn0 : n = 0
    · subst hn0
      exact ⟨some a, 0, cap, fun _ => 0, fun _ => false, fun _ => 0, rfl, hl, hm, (fun h => by cases h), (fun k hk => by omega), .inr ⟨_, _, by rw [hx], by simp⟩⟩
    have hspot : a.spot = none := by
      obtain ⟨cs, hcl, _⟩ := hcell 0 (by omega)
      rw [hc] at hcl
      obtain ⟨_, hlen, hget⟩ := World.cells?_some hcl
      have g0 := hget 0 (by omega)
      rw [List.getElem?_eq_getElem (by omega)] at g0
      have := World.cell?_spot g0
      simpa [Addr.add] using this
    obtain ⟨b, off, spot⟩ := a
    simp only at hspot
    subst hspot
    have key : ∀ k, k < n → ∃ (y : Int × Bool × Int), w.cell? ⟨b, off + k * 3, none⟩ = some (.int .i64 y.1) ∧ w.cell? ⟨b, off + k * 3 + 1, none⟩ = some (.bool y.2.1) ∧ w.cell? ⟨b, off + k * 3 + 2, none⟩ = some (.int .i64 y.2.2) := by
      intro k hk
      obtain ⟨cs, hcl, htr⟩ := hcell k (by omega)
      rw [hc] at hcl
      obtain ⟨_, hlen, hget⟩ := World.cells?_some hcl
      obtain ⟨y0, y1, y2, n', _, _, h0, h1, h2⟩ := trod_struct3 he htr
      rw [t0, o0, ci] at h0
      rw [t1, o1, cb] at h1
      rw [t2, o2, ci] at h2
      match cs, hlen with
      | [p, q, r], _ =>
        obtain ⟨i0, e0, _, _⟩ := DataW.trod_int hi h0
        obtain ⟨i1, e1, _⟩ := DataW.trod_bool hb h1
        obtain ⟨i2, e2, _, _⟩ := DataW.trod_int hi h2
        simp at e0 e1 e2
        subst e0 e1 e2
        have g0 := hget 0 (by omega)
        have g1 := hget 1 (by omega)
        have g2 := hget 2 (by omega)
        simp only [List.getElem?_cons_zero, List.getElem?_cons_succ, Addr.add_lit, Nat.add_zero] at g0 g1 g2
        exact ⟨(i0, i1, i2), g0, g1, g2⟩
    obtain ⟨f, hf⟩ := choose_lt key
    exact ⟨some ⟨b, off, none⟩, n, cap, fun k => (f k).1, fun k => (f k).2.1, fun k => (f k).2.2, rfl, hl, hm, (fun h => by cases h), (fun k hk => ⟨b, off, rfl, hf k hk⟩), .inr ⟨_, _, by rw [hx], by simp⟩⟩

/-- The reach of a list: so many elements at most. -/
theorem len_reach {t e n : Nat} {d : DataW H} {bytes : Nat} (ht : P.underlying t = some (.slice e)) (hb : P.bytesOf e = bytes) (hd : LenIs d n) (hw : ∀ x ∈ DataW.weights P t d, x ≤ reachBytes) : n * bytes ≤ reachBytes := by
  rcases hd with ⟨_, rfl⟩ | ⟨els, rest, rfl, rfl⟩
  · omega
  · have := hw ((els.length + rest.length) * P.bytesOf e) (by simp [DataW.weights, ht])
    rw [hb] at this
    exact Nat.le_trans (Nat.mul_le_mul_right _ (Nat.le_add_right _ _)) this

end
end Go.Proofs.YtcioofnmhfehaaaGreat
