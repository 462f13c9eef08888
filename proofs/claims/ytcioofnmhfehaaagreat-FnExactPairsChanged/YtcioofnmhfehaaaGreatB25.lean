/-
  OWN TEXT: MarkT, MarkBk, MarkOff.
-/
import Derived.Test.YtcioofnmhfehaaaGreatB24
import Derived.Test.YtcioofnmhfehaaaGreatB10
import Derived.Test.YtcioofnmhfehaaaGreatB23
import Derived.Test.YtcioofnmhfehaaaGreatB11
namespace Go.Proofs.YtcioofnmhfehaaaGreat
open Go.RowKit

/-- A row of N sailings in the block g, whose lanes and cabins lie in blocks of their own that rise behind g. -/
structure MarkIs (w : World) (base g N : Nat) (n m l c : Nat → Nat) : Prop where
  ord : ∀ i, i < N → g < l i ∧ l i < c i
  rise : ∀ i j, i < j → j < N → c i < l j
  row : ∃ f, w.ownsRow base 50 8 (.slice (some ⟨g, 0, none⟩) N N) N ((List.range (N * 8)).map f) ∧ ∀ i, i < N → f (i * 8 + 5) = whole (l i) (n i) ∧ f (i * 8 + 6) = whole (c i) (m i)
  lanes : ∀ i, i < N → ∃ f, w.ownsRow base 93 2 (whole (l i) (n i)) (n i) ((List.range (n i * 2)).map f)
  cabins : ∀ i, i < N → ∃ f, w.ownsRow base 95 2 (whole (c i) (m i)) (m i) ((List.range (m i * 2)).map f)

theorem whole_block {b n g : Nat} (h : (whole b n).ownBlock = some g) : b = g := by
  simpa only [whole, Value.ownBlock, Option.some.injEq] using h

section
variable {w w' : World} {base g N : Nat} {n m l c : Nat → Nat}

theorem MarkIs.cell (h : MarkIs w base g N n m l c) (j : Nat) (hj : j < N * 8) : ∃ v, w.cell? ⟨g, j, none⟩ = some v := by
  obtain ⟨f, hf, _⟩ := h.row
  exact ⟨_, own_cell hf j hj rfl⟩
theorem MarkIs.ice (h : MarkIs w base g N n m l c) (j : Nat) : w.frozen? ⟨g, j, none⟩ = false := by
  obtain ⟨f, hf, _⟩ := h.row
  exact hf.frozenAt j
theorem MarkIs.lane (h : MarkIs w base g N n m l c) {t : Nat} (ht : t < N) : w.cell? ⟨g, t * 8 + 5, none⟩ = some (.slice (some ⟨l t, 0, none⟩) (n t) (n t)) := by
  obtain ⟨f, hf, h5⟩ := h.row
  rw [own_cell hf (t * 8 + 5) (by omega) rfl, (h5 t ht).1]; rfl
theorem MarkIs.cabin (h : MarkIs w base g N n m l c) {t : Nat} (ht : t < N) : w.cell? ⟨g, t * 8 + 6, none⟩ = some (.slice (some ⟨c t, 0, none⟩) (m t) (m t)) := by
  obtain ⟨f, hf, h5⟩ := h.row
  rw [own_cell hf (t * 8 + 6) (by omega) rfl, (h5 t ht).2]; rfl
theorem MarkIs.below (h : MarkIs w base g N n m l c) (hb : Below w.heap.size w w') : MarkIs w' base g N n m l c := by
  refine ⟨h.ord, h.rise, ?_, fun i hi => ?_, fun i hi => ?_⟩
  · obtain ⟨f, hf, h5⟩ := h.row; exact ⟨f, own_below hb hf, h5⟩
  · obtain ⟨f, hf⟩ := h.lanes i hi; exact ⟨f, own_below hb hf⟩
  · obtain ⟨f, hf⟩ := h.cabins i hi; exact ⟨f, own_below hb hf⟩
theorem MarkIs.put (h : MarkIs w base g N n m l c) (j : Nat) (h5 : j % 8 ≠ 5) (h6 : j % 8 ≠ 6) (u : Value) : MarkIs (w.setCell ⟨g, j, none⟩ u) base g N n m l c := by
  have hk : Kept w (w.setCell ⟨g, j, none⟩ u) (fun b => b = g) := (Kept.refl w (fun b => b = g)).set (a := ⟨g, j, none⟩) rfl u
  refine ⟨h.ord, h.rise, ?_, fun i hi => ?_, fun i hi => ?_⟩
  · obtain ⟨f, hf, hx⟩ := h.row
    refine ⟨_, own_store hf j u, fun i hi => ?_⟩
    rw [if_neg (by omega), if_neg (by omega)]
    exact hx i hi
  · obtain ⟨f, hf⟩ := h.lanes i hi
    exact ⟨f, hk.own hf (fun b hb e => by have := whole_block hb; have := h.ord i hi; omega)⟩
  · obtain ⟨f, hf⟩ := h.cabins i hi
    exact ⟨f, hk.own hf (fun b hb e => by have := whole_block hb; have := h.ord i hi; omega)⟩
theorem MarkIs.apart (h : MarkIs w base g N n m l c) {i j : Nat} (hi : i < N) (hj : j < N) : (i ≠ j → l i ≠ l j ∧ c i ≠ c j) ∧ l i ≠ c j := by
  have a := h.ord i hi
  have b := h.ord j hj
  rcases Nat.lt_trichotomy i j with e | e | e
  · have := h.rise i j e hj; exact ⟨fun _ => ⟨by omega, by omega⟩, by omega⟩
  · subst e; exact ⟨fun x => absurd rfl x, by omega⟩
  · have := h.rise j i e hi; exact ⟨fun _ => ⟨by omega, by omega⟩, by omega⟩
theorem MarkIs.keptL (h : MarkIs w base g N n m l c) {t : Nat} (ht : t < N) (hk : Kept w w' (fun b => b = l t)) (ho : ∃ f, w'.ownsRow base 93 2 (whole (l t) (n t)) (n t) ((List.range (n t * 2)).map f)) : MarkIs w' base g N n m l c := by
  refine ⟨h.ord, h.rise, ?_, fun i hi => ?_, fun i hi => ?_⟩
  · obtain ⟨f, hf, hx⟩ := h.row
    exact ⟨f, hk.own hf (fun b hb e => by have := whole_block hb; have := h.ord t ht; omega), hx⟩
  · by_cases e : i = t
    · subst e; exact ho
    · obtain ⟨f, hf⟩ := h.lanes i hi
      exact ⟨f, hk.own hf (fun b hb e' => by have := whole_block hb; have := ((h.apart hi ht).1 e).1; omega)⟩
  · obtain ⟨f, hf⟩ := h.cabins i hi
    exact ⟨f, hk.own hf (fun b hb e' => by have := whole_block hb; have := (h.apart ht hi).2; omega)⟩
theorem MarkIs.keptC (h : MarkIs w base g N n m l c) {t : Nat} (ht : t < N) (hk : Kept w w' (fun b => b = c t)) (ho : ∃ f, w'.ownsRow base 95 2 (whole (c t) (m t)) (m t) ((List.range (m t * 2)).map f)) : MarkIs w' base g N n m l c := by
  refine ⟨h.ord, h.rise, ?_, fun i hi => ?_, fun i hi => ?_⟩
  · obtain ⟨f, hf, hx⟩ := h.row
    exact ⟨f, hk.own hf (fun b hb e => by have := whole_block hb; have := h.ord t ht; omega), hx⟩
  · obtain ⟨f, hf⟩ := h.lanes i hi
    exact ⟨f, hk.own hf (fun b hb e' => by have := whole_block hb; have := (h.apart hi ht).2; omega)⟩
  · by_cases e : i = t
    · subst e; exact ho
    · obtain ⟨f, hf⟩ := h.cabins i hi
      exact ⟨f, hk.own hf (fun b hb e' => by have := whole_block hb; have := ((h.apart hi ht).1 e).2; omega)⟩
end

/-- A copy that toSailingS made, as a row to be marked. -/
theorem SailsTo.mark {w : World} {lo g N : Nat} {S : Nat → Sail} {l c : Nat → Nat} (r : SailsTo w 50 93 95 N lo g N S l c) (hN : N ≤ 1048576) (hL : ∀ i, i < N → (S i).la.n ≤ 1048576) (hC : ∀ i, i < N → (S i).ca.n ≤ 1048576) :
    MarkIs w lo g N (fun i => (S i).la.n) (fun i => (S i).ca.n) l c := by
  have hlo := r.lo
  refine ⟨fun i hi => ⟨(r.lanes i hi).1, (r.cabins i hi).1⟩, r.rise, ⟨_, own_of_row r.row r.lo (by unfold maxLen; omega), fun i hi => ?_⟩, fun i hi => ?_, fun i hi => ?_⟩
  · rw [sailCell_5, sailCell_6, upto_lt _ _ hi, upto_lt _ _ hi]; exact ⟨rfl, rfl⟩
  · exact ⟨_, own_of_row (r.lanes i hi).2 (by have := (r.lanes i hi).1; omega) (by have := hL i hi; unfold maxLen; omega)⟩
  · exact ⟨_, own_of_row (r.cabins i hi).2 (by have := (r.lanes i hi).1; have := (r.cabins i hi).1; omega) (by have := hC i hi; unfold maxLen; omega)⟩

set_option maxHeartbeats 1600000 in
theorem markSailingS_own (g N B base k0 : Nat) (n m l c : Nat → Nat) (w : World) (hN : N ≤ 1048576) (hk0 : k0 ≤ 1048576) (hn : ∀ i, i < N → n i ≤ 1048576) (hm : ∀ i, i < N → m i ≤ 1048576) (hg : g < B) (hB : ∀ i, i < N → c i < B) (ho : MarkIs w base g N n m l c) :
    Calls Tryz.prog 28 #[.slice (some ⟨g, 0, none⟩) N N, .int .i64 k0] w fun e w' => (∃ k : Nat, k ≤ 10000000000000 ∧ e = .returned (.int .i64 k)) ∧ Kept w w' (fun b => g ≤ b ∧ b < B) := by
  have HN : Hid (∀ i, i < N → n i ≤ 1048576 ∧ m i ≤ 1048576 ∧ c i < B) := fun i hi => ⟨hn i hi, hm i hi, hB i hi⟩
  clear hn hm hB
  go_enter Tryz.func28, Tryz.ntmps28
  go_wp2
  go_loopw [1, 5] (fun q i wr => ∃ t k : Nat, t ≤ N ∧ i = .int .i64 t ∧ q = .int .i64 k ∧ k ≤ 1048576 + t * 4194310 ∧ MarkIs wr base g N n m l c ∧ Kept w wr (fun b => g ≤ b ∧ b < B)) (fun _ i _ => N - (intOf i).toNat)
  case atStart => exact ⟨0, k0, Nat.zero_le _, rfl, rfl, by omega, ho, Kept.refl _ _⟩
  case round =>
    obtain ⟨t, k, ht, rfl, rfl, hkk, hM, hk⟩ := hrel
    by_cases hlt : t < N
    · have sN := HN.out t hlt
      have oN := hM.ord t hlt
      obtain ⟨v0, hc0⟩ := hM.cell (t * 8) (by omega)
      have hf0 := hM.ice (t * 8)
      go_wp2_with fail
      refine (markText_int _ _ (by omega) (by omega)).mono ?_
      rintro e w2 ⟨⟨s, rfl⟩, hb2⟩
      have hM2 := (hM.put (t * 8) (by omega) (by omega) (.int .i64 k)).below hb2
      have hk2 := (hk.set (a := ⟨g, t * 8, none⟩) ⟨Nat.le_refl g, hg⟩ (.int .i64 k)).trans (Kept.of_below hb2)
      clear hM hk hc0 hf0 hb2
      obtain ⟨v1, hc1⟩ := hM2.cell (t * 8 + 1) (by omega)
      have hf1 := hM2.ice (t * 8 + 1)
      go_wp2_with fail
      refine (markText_int _ _ (by omega) (by omega)).mono ?_
      rintro e w3 ⟨⟨s', rfl⟩, hb3⟩
      have hM3 := (hM2.put (t * 8 + 1) (by omega) (by omega) (.string s)).below hb3
      have hk3 := (hk2.set (a := ⟨g, t * 8 + 1, none⟩) ⟨Nat.le_refl g, hg⟩ (.string s)).trans (Kept.of_below hb3)
      clear hM2 hk2 hc1 hf1 hb3
      have hM4 := ((hM3.put (t * 8 + 2) (by omega) (by omega) (.string s')).put (t * 8 + 3) (by omega) (by omega) (.int .i64 (k + 1 + 1 + 1))).put (t * 8 + 4) (by omega) (by omega) (.int .i64 (k + 1 + 1 + 1 + 1))
      have hk4 := ((hk3.set (a := ⟨g, t * 8 + 2, none⟩) ⟨Nat.le_refl g, hg⟩ (.string s')).set (a := ⟨g, t * 8 + 3, none⟩) ⟨Nat.le_refl g, hg⟩ (.int .i64 (k + 1 + 1 + 1))).set (a := ⟨g, t * 8 + 4, none⟩) ⟨Nat.le_refl g, hg⟩ (.int .i64 (k + 1 + 1 + 1 + 1))
      obtain ⟨v2, hc2⟩ := hM3.cell (t * 8 + 2) (by omega)
      obtain ⟨v3, hc3⟩ := hM3.cell (t * 8 + 3) (by omega)
      obtain ⟨v4, hc4⟩ := hM3.cell (t * 8 + 4) (by omega)
      have hc5 := hM3.lane hlt
      have hf2 := hM3.ice (t * 8 + 2)
      have hf3 := hM3.ice (t * 8 + 3)
      have hf4 := hM3.ice (t * 8 + 4)
      go_wp2_with fail
      obtain ⟨F, hF⟩ := hM4.lanes t hlt
      refine (markLaneS_own (l t) (n t) base F _ _ sN.1 (by omega) (by omega) hF).mono ?_
      rintro e w5 ⟨rfl, ho5, hb5⟩
      have hM5 := hM4.keptL hlt hb5 ho5
      have hk5 := hk4.trans (hb5.mono (fun b e => ⟨by omega, by omega⟩))
      clear hM3 hk3 hM4 hk4 hF ho5 hb5 hc2 hc3 hc4 hc5 hf2 hf3 hf4
      have hc6 := hM5.cabin hlt
      obtain ⟨G, hG⟩ := hM5.cabins t hlt
      go_wp2_with fail
      refine (markCabinS_own (c t) (m t) base G _ _ sN.2.1 (by omega) (by omega) hG).mono ?_
      rintro e w6 ⟨rfl, ho6, hb6⟩
      have hM6 := hM5.keptC hlt hb6 ho6
      have hk6 := hk5.trans (hb6.mono (fun b e => ⟨by omega, by omega⟩))
      clear hM5 hk5 hG ho6 hb6 hc6
      obtain ⟨v7, hc7⟩ := hM6.cell (t * 8 + 7) (by omega)
      have hf7 := hM6.ice (t * 8 + 7)
      go_wp2
      go_roundw
      case rel => exact ⟨t + 1, k + 5 + 2 * n t + 2 * m t + 1, by omega, by go_num, by congr 1, by omega, hM6.put (t * 8 + 7) (by omega) (by omega) _, hk6.set (a := ⟨g, t * 8 + 7, none⟩) ⟨Nat.le_refl g, hg⟩ _⟩
      case measure => simp [intOf]; omega
    · obtain rfl : t = N := by omega
      go_wp2
      go_ret
      exact ⟨⟨k, by omega, rfl⟩, hk⟩

end Go.Proofs.YtcioofnmhfehaaaGreat

namespace Go.Proofs.YtcioofnmhfehaaaGreat
open Go.RowKit

/-- A row of N bookings in the block g, whose legs lie in blocks behind g. -/
structure BMark (w : World) (base g N : Nat) (n l : Nat → Nat) : Prop where
  ord : ∀ i, i < N → g < l i
  row : ∃ f, w.ownsRow base 101 13 (.slice (some ⟨g, 0, none⟩) N N) N ((List.range (N * 13)).map f) ∧ ∀ i, i < N → f (i * 13 + 3) = whole (l i) (n i)
  legs : ∀ i, i < N → IntRow w base (l i) (n i)

section
variable {w w' : World} {base g N : Nat} {n l : Nat → Nat}
theorem BMark.cell (h : BMark w base g N n l) (j : Nat) (hj : j < N * 13) : ∃ v, w.cell? ⟨g, j, none⟩ = some v := by
  obtain ⟨f, hf, _⟩ := h.row
  exact ⟨_, own_cell hf j hj rfl⟩
theorem BMark.ice (h : BMark w base g N n l) (j : Nat) : w.frozen? ⟨g, j, none⟩ = false := by
  obtain ⟨f, hf, _⟩ := h.row
  exact hf.frozenAt j
theorem BMark.leg (h : BMark w base g N n l) {t : Nat} (ht : t < N) : w.cell? ⟨g, t * 13 + 3, none⟩ = some (.slice (some ⟨l t, 0, none⟩) (n t) (n t)) := by
  obtain ⟨f, hf, h5⟩ := h.row
  rw [own_cell hf (t * 13 + 3) (by omega) rfl, h5 t ht]; rfl
theorem BMark.below (h : BMark w base g N n l) (hb : Below w.heap.size w w') : BMark w' base g N n l := by
  refine ⟨h.ord, ?_, fun i hi => ?_⟩
  · obtain ⟨f, hf, h5⟩ := h.row; exact ⟨f, own_below hb hf, h5⟩
  · exact (h.legs i hi).kept (Kept.of_below (S := fun _ => False) hb) (fun h => h)
theorem BMark.put (h : BMark w base g N n l) (j : Nat) (h5 : j % 13 ≠ 3) (u : Value) : BMark (w.setCell ⟨g, j, none⟩ u) base g N n l := by
  have hk : Kept w (w.setCell ⟨g, j, none⟩ u) (fun b => b = g) := (Kept.refl w (fun b => b = g)).set (a := ⟨g, j, none⟩) rfl u
  refine ⟨h.ord, ?_, fun i hi => ?_⟩
  · obtain ⟨f, hf, hx⟩ := h.row
    refine ⟨_, own_store hf j u, fun i hi => ?_⟩
    rw [if_neg (by omega)]
    exact hx i hi
  · exact (h.legs i hi).kept hk (fun e => by have := h.ord i hi; omega)
theorem BMark.mark (h : BMark w base g N n l) {t : Nat} (ht : t < N) (hk : Kept w w' (fun b => b = l t)) (ho : IntRow w' base (l t) (n t)) : BMark w' base g N n l := by
  refine ⟨h.ord, ?_, fun i hi => ?_⟩
  · obtain ⟨f, hf, hx⟩ := h.row
    exact ⟨f, hk.own hf (fun b hb e => by simp only [Value.ownBlock, Option.some.injEq] at hb; have := h.ord t ht; omega), hx⟩
  · exact (h.legs i hi).after (h.legs t ht) hk (by omega) (fun _ => rfl) (fun _ e => by rw [e]; exact ho)
end

set_option maxHeartbeats 3200000 in
set_option maxRecDepth 100000 in
theorem markBookingS_own (g N lo hi k0 : Nat) (S : Nat → Book) (C : Nat → List Value) (w : World) (hN : N ≤ 1048576) (hk0 : k0 ≤ 30000000000000) (hs : BooksShort N S 1048576) (ho : BooksTo w N lo hi g N S C) :
    Calls Tryz.prog 30 #[.slice (some ⟨g, 0, none⟩) N N, .int .i64 k0] w fun e w' => (∃ k : Nat, e = .returned (.int .i64 k)) ∧ Kept w w' (fun b => lo ≤ b ∧ b < hi) := by
  have key : ∀ i, i < N → ∃ q : Nat, (g < q ∧ q < hi) ∧ (C i).getD 3 (.bool false) = whole q (S i).lgn ∧ IntRow w lo q (S i).lgn := by
    intro i hi'
    obtain ⟨a, e, ha⟩ := ho.each i hi'
    have sh := hs i hi'
    have gl := ho.glo
    unfold Book.Short at sh
    exact ⟨a, ⟨Nat.lt_of_succ_le ha.1, ha.2.1⟩, by rw [e]; rfl, ⟨_, ⟨_, rfl⟩, by have := own_of_row (size := 1) (n := (S i).lgn) (by rw [Nat.mul_one]; exact ha.2.2) (Nat.le_trans (Nat.le_succ_of_le gl) ha.1) (by unfold maxLen; omega); rw [Nat.mul_one] at this; exact this⟩⟩
  obtain ⟨l, hp⟩ := Go.Deep.choose_lt key
  have hM0 : BMark w lo g N (fun i => (S i).lgn) l := by
    refine ⟨fun i hi' => (hp i hi').1.1, ⟨_, own_of_row ho.row ho.glo (by unfold maxLen; omega), fun i hi' => ?_⟩, fun i hi' => (hp i hi').2.2⟩
    rw [recCell_at 13 _ i 3 (by omega), upto_lt _ _ hi', (hp i hi').2.1]
  have HP : Hid (∀ i, i < N → (S i).lgn ≤ 1048576 ∧ g < l i ∧ l i < hi) := fun i hi' => ⟨(hs i hi').2, (hp i hi').1⟩
  have hgl := ho.glo
  have hgh := ho.ghi
  clear hs ho key hp
  go_enter Tryz.func30, Tryz.ntmps30
  go_wp2
  go_loopw [1, 5] (fun q i wr => ∃ t k : Nat, t ≤ N ∧ i = .int .i64 t ∧ q = .int .i64 k ∧ k ≤ 30000000000000 + t * 1048600 ∧ BMark wr lo g N (fun i => (S i).lgn) l ∧ Kept w wr (fun b => g ≤ b ∧ b < hi)) (fun _ i _ => N - (intOf i).toNat)
  case atStart => exact ⟨0, k0, Nat.zero_le _, rfl, rfl, by omega, hM0, Kept.refl _ _⟩
  case round =>
    obtain ⟨t, k, ht, rfl, rfl, hkk, hM, hk⟩ := hrel
    by_cases hlt : t < N
    · obtain ⟨n1, b1, b2⟩ := HP.out t hlt
      obtain ⟨v0, hc0⟩ := hM.cell (t * 13) (by omega)
      obtain ⟨v1, hc1⟩ := hM.cell (t * 13 + 1) (by omega)
      have hf0 := hM.ice (t * 13)
      have hf1 := hM.ice (t * 13 + 1)
      go_wp2_with fail
      refine (markText_int _ _ (by omega) (by omega)).mono ?_
      rintro e w2 ⟨⟨s, rfl⟩, hb2⟩
      have hM2 := ((hM.put (t * 13) (by omega) (.int .i64 k)).put (t * 13 + 1) (by omega) (.int .i64 (k + 1))).below hb2
      have hk2 := ((hk.set (a := ⟨g, t * 13, none⟩) ⟨Nat.le_refl g, hgh⟩ (.int .i64 k)).set (a := ⟨g, t * 13 + 1, none⟩) ⟨Nat.le_refl g, hgh⟩ (.int .i64 (k + 1))).trans (Kept.of_below hb2)
      clear hM hk hc0 hf0 hc1 hf1 hb2
      obtain ⟨v2, hc2⟩ := hM2.cell (t * 13 + 2) (by omega)
      have hf2 := hM2.ice (t * 13 + 2)
      have hc3 := hM2.leg hlt
      have hM3 := hM2.put (t * 13 + 2) (by omega) (.string s)
      have hk3 := hk2.set (a := ⟨g, t * 13 + 2, none⟩) ⟨Nat.le_refl g, hgh⟩ (.string s)
      go_wp2_with fail
      have r1 : IntRow (w2.setCell ⟨g, t * 13 + 2, none⟩ (.string s)) lo (l t) (S t).lgn := hM3.legs t hlt
      refine (markInt_row n1 (by omega) (by omega) r1).mono ?_
      rintro e w4 ⟨rfl, o4, k4⟩
      have hM4 := hM3.mark hlt k4 o4
      have hk4 := hk3.trans (k4.mono (fun b e => by have e : b = l t := e; exact ⟨by omega, by omega⟩))
      clear hM2 hk2 hM3 hk3 hc2 hf2 hc3 r1 o4 k4 w2
      obtain ⟨v4, hc4⟩ := hM4.cell (t * 13 + 4) (by omega)
      have hf4 := hM4.ice (t * 13 + 4)
      obtain ⟨v5, hc5⟩ := hM4.cell (t * 13 + 5) (by omega)
      have hf5 := hM4.ice (t * 13 + 5)
      obtain ⟨v6, hc6⟩ := hM4.cell (t * 13 + 6) (by omega)
      have hf6 := hM4.ice (t * 13 + 6)
      obtain ⟨v7, hc7⟩ := hM4.cell (t * 13 + 7) (by omega)
      have hf7 := hM4.ice (t * 13 + 7)
      obtain ⟨v8, hc8⟩ := hM4.cell (t * 13 + 8) (by omega)
      have hf8 := hM4.ice (t * 13 + 8)
      obtain ⟨v9, hc9⟩ := hM4.cell (t * 13 + 9) (by omega)
      have hf9 := hM4.ice (t * 13 + 9)
      obtain ⟨v10, hc10⟩ := hM4.cell (t * 13 + 10) (by omega)
      have hf10 := hM4.ice (t * 13 + 10)
      obtain ⟨v11, hc11⟩ := hM4.cell (t * 13 + 11) (by omega)
      have hf11 := hM4.ice (t * 13 + 11)
      obtain ⟨v12, hc12⟩ := hM4.cell (t * 13 + 12) (by omega)
      have hf12 := hM4.ice (t * 13 + 12)
      go_wp2
      go_roundw
      case rel => exact ⟨t + 1, k + 12 + (S t).lgn, by omega, by go_num, by go_num, by omega, ((((((((hM4.put (t * 13 + 4) (by omega) _).put (t * 13 + 5) (by omega) _).put (t * 13 + 6) (by omega) _).put (t * 13 + 7) (by omega) _).put (t * 13 + 8) (by omega) _).put (t * 13 + 9) (by omega) _).put (t * 13 + 10) (by omega) _).put (t * 13 + 11) (by omega) _).put (t * 13 + 12) (by omega) _, ((((((((hk4.set (a := ⟨g, t * 13 + 4, none⟩) ⟨Nat.le_refl g, hgh⟩ _).set (a := ⟨g, t * 13 + 5, none⟩) ⟨Nat.le_refl g, hgh⟩ _).set (a := ⟨g, t * 13 + 6, none⟩) ⟨Nat.le_refl g, hgh⟩ _).set (a := ⟨g, t * 13 + 7, none⟩) ⟨Nat.le_refl g, hgh⟩ _).set (a := ⟨g, t * 13 + 8, none⟩) ⟨Nat.le_refl g, hgh⟩ _).set (a := ⟨g, t * 13 + 9, none⟩) ⟨Nat.le_refl g, hgh⟩ _).set (a := ⟨g, t * 13 + 10, none⟩) ⟨Nat.le_refl g, hgh⟩ _).set (a := ⟨g, t * 13 + 11, none⟩) ⟨Nat.le_refl g, hgh⟩ _).set (a := ⟨g, t * 13 + 12, none⟩) ⟨Nat.le_refl g, hgh⟩ _⟩
      case measure => simp [intOf]; omega
    · obtain rfl : t = N := by omega
      go_wp2
      go_ret
      exact ⟨⟨k, rfl⟩, hk.mono (fun b e => by have e : g ≤ b ∧ b < hi := e; exact ⟨by omega, by omega⟩)⟩

end Go.Proofs.YtcioofnmhfehaaaGreat

namespace Go.Proofs.YtcioofnmhfehaaaGreat
open Go.RowKit

set_option maxHeartbeats 1600000 in
set_option maxRecDepth 100000 in
theorem markOffice_own (cs : List Value) (x : Off) (lo hi : Nat) (w : World) (hs : Off.Short x 1048576) (ho : Off.In w lo hi cs x) (hh : hi ≤ w.heap.size) :
    Calls Tryz.prog 10 #[.agg cs.toArray, .int .i64 1] w fun e w' => (∃ k : Nat, e = .returned (.int .i64 k)) ∧ Kept w w' (fun b => lo ≤ b ∧ b < hi) := by
  obtain ⟨m1, m2, gsa, l, c, gld, C, gbk, E, rfl, hm, h1, h2, h3⟩ := ho
  obtain ⟨⟨n1, s1⟩, ⟨n2, s2⟩, ⟨n3, s3⟩⟩ := hs
  have hb0 : Below w.heap.size w (w.alloc (.cells #[.slice (some ⟨gsa, 0, none⟩) x.san x.san, .slice (some ⟨gld, 0, none⟩) x.ldn x.ldn, .slice (some ⟨gbk, 0, none⟩) x.bkn x.bkn] 35)) := push (Below.refl _ _) _
  have bO := heap_alloc_new w (.cells #[.slice (some ⟨gsa, 0, none⟩) x.san x.san, .slice (some ⟨gld, 0, none⟩) x.ldn x.ldn, .slice (some ⟨gbk, 0, none⟩) x.bkn x.bkn] 35)
  have hM := h1.made.mark n1 (fun i hi => (s1 i hi).2.2.1) (fun i hi => (s1 i hi).2.2.2)
  have HL : Hid (∀ i, i < x.san → (x.sa i).la.n ≤ 1048576) := fun i hi => (s1 i hi).2.2.1
  have HC : Hid (∀ i, i < x.san → (x.sa i).ca.n ≤ 1048576) := fun i hi => (s1 i hi).2.2.2
  have HLH : Hid (∀ i, i < x.san → c i < m1) := fun i hi => (h1.lh i hi).2
  have gl := h1.made.lo
  have gh := h1.gh
  have H2 : Hid (LoadsTo w x.ldn m1 m2 gld x.ldn x.ld C) := h2
  have H3 : Hid (BooksTo w x.bkn m2 hi gbk x.bkn x.bk E) := h3
  have HM : Hid (MarkIs w lo gsa x.san (fun i => (x.sa i).la.n) (fun i => (x.sa i).ca.n) l c) := hM
  have HS2 : Hid (LoadsShort x.ldn x.ld 1048576) := s2
  have HS3 : Hid (BooksShort x.bkn x.bk 1048576) := s3
  clear h1 h2 h3 s1 s2 s3 hM
  show Calls Tryz.prog 10 #[.agg #[.slice (some ⟨gsa, 0, none⟩) x.san x.san, .slice (some ⟨gld, 0, none⟩) x.ldn x.ldn, .slice (some ⟨gbk, 0, none⟩) x.bkn x.bkn], .int .i64 1] w _
  go_enter Tryz.func10, Tryz.ntmps10
  go_wp2_with fail
  generalize w.alloc (.cells #[.slice (some ⟨gsa, 0, none⟩) x.san x.san, .slice (some ⟨gld, 0, none⟩) x.ldn x.ldn, .slice (some ⟨gbk, 0, none⟩) x.bkn x.bkn] 35) = V0 at hb0 bO ⊢
  refine (markSailingS_own gsa x.san m1 lo 1 _ _ l c V0 n1 (by omega) HL.out HC.out gh HLH.out (HM.out.below hb0)).mono ?_
  rintro e V1 ⟨⟨k1, hk1, rfl⟩, kp1⟩
  have kq1 : Kept w V1 (fun b => lo ≤ b ∧ b < m1) := (Kept.of_below hb0).trans (kp1.mono (fun b e => by have e : gsa ≤ b ∧ b < m1 := e; exact ⟨by omega, e.2⟩))
  have bO1 := kp1.blk bO (by omega)
  have q1 := blk_cell bO1 1 _ rfl
  go_wp2_with fail
  refine (markLoadS_own gld x.ldn m1 m2 k1 x.ld C V1 n2 hk1 HS2.out (H2.out.kept kq1 (fun b e => by omega))).mono ?_
  rintro e V2 ⟨⟨k2, hk2, rfl⟩, kp2⟩
  have kq2 : Kept w V2 (fun b => lo ≤ b ∧ b < m2) := (kq1.mono (fun b e => by have e : lo ≤ b ∧ b < m1 := e; exact ⟨by omega, by omega⟩)).trans (kp2.mono (fun b e => by have e : m1 ≤ b ∧ b < m2 := e; exact ⟨by omega, by omega⟩))
  have bO2 := kp2.blk bO1 (by omega)
  have q2 := blk_cell bO2 2 _ rfl
  clear q1 bO1 kq1 kp1 kp2 bO
  go_wp2_with fail
  refine (markBookingS_own gbk x.bkn m2 hi k2 x.bk E V2 n3 hk2 HS3.out (H3.out.kept kq2 (fun b e => by omega))).mono ?_
  rintro e V3 ⟨⟨k3, rfl⟩, kp3⟩
  have kq3 : Kept w V3 (fun b => lo ≤ b ∧ b < hi) := (kq2.mono (fun b e => by have e : lo ≤ b ∧ b < m2 := e; exact ⟨by omega, by omega⟩)).trans (kp3.mono (fun b e => by have e : m2 ≤ b ∧ b < hi := e; exact ⟨by omega, by omega⟩))
  go_wp2
  go_ret
  exact ⟨⟨k3, rfl⟩, kq3⟩

end Go.Proofs.YtcioofnmhfehaaaGreat
