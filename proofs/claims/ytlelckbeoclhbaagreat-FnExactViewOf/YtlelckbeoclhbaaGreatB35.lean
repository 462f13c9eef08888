/-
  OWN TEXT: MarkIr, MarkS, MarkT, MarkBk.
-/
import Derived.Test.YtlelckbeoclhbaaGreatB34
import Derived.Test.YtlelckbeoclhbaaGreatB03
import Derived.Test.YtlelckbeoclhbaaGreatB32
import Derived.Test.YtlelckbeoclhbaaGreatB00
import Derived.Test.YtlelckbeoclhbaaGreatB06
import Derived.Test.YtlelckbeoclhbaaGreatB07
import Derived.Test.YtlelckbeoclhbaaGreatB01
set_option maxHeartbeats 12800000
set_option maxRecDepth 100000
namespace Go.Proofs.YtlelckbeoclhbaaGreat
open Go.RowKit
def IntRow (w : World) (base b n : Nat) : Prop := OwnAny w base 3 1 b n (fun xs => ∃ F, xs = intList F n)
theorem markInt_row {w : World} {base b n : Nat} {k : Int} (hn : n ≤ 1048576) (h0 : 0 ≤ k) (h1 : k ≤ 1000000000000000) (h : IntRow w base b n) :
    Calls Tryz.prog 40 #[.slice (some ⟨b, 0, none⟩) n n, .int .i64 k] w fun e w' => e = .returned (.int .i64 (k + n)) ∧ IntRow w' base b n ∧ Kept w w' (fun x => x = b) := by
  obtain ⟨_, ⟨S, rfl⟩, ho⟩ := h
  exact (markIntS_own _ n n base S k w (by omega) h0 h1 ho).mono fun _ _ ⟨a, b, c⟩ => ⟨a, ⟨_, ⟨_, rfl⟩, b⟩, c.mono (fun x hx => by obtain ⟨g, e, e2⟩ := hx; simp only [Option.some.injEq, Addr.mk.injEq] at e; omega)⟩
end Go.Proofs.YtlelckbeoclhbaaGreat

namespace Go.Proofs.YtlelckbeoclhbaaGreat
open Go.RowKit
theorem markLaneS_own (g n base : Nat) (f : Nat → Value) (k0 : Int) (w : World) (hn : n ≤ 1048576) (h0 : 0 ≤ k0) (h1 : k0 ≤ 1000000000000000) (ho : w.ownsRow base 122 2 (.slice (some ⟨g, 0, none⟩) n n) n ((List.range (n * 2)).map f)) :
    Calls Tryz.prog 75 #[.slice (some ⟨g, 0, none⟩) n n, .int .i64 k0] w fun e w' => e = .returned (.int .i64 (k0 + 2 * n)) ∧ (∃ f, w'.ownsRow base 122 2 (.slice (some ⟨g, 0, none⟩) n n) n ((List.range (n * 2)).map f)) ∧ Kept w w' (fun b => b = g) := by
  go_enter Tryz.func75, Tryz.ntmps75
  go_wp2
  go_loopw [1, 5] (fun q i wr => ∃ (t : Nat) (f : Nat → Value), t ≤ n ∧ i = .int .i64 t ∧ q = .int .i64 (k0 + 2 * t) ∧ wr.ownsRow base 122 2 (.slice (some ⟨g, 0, none⟩) n n) n ((List.range (n * 2)).map f) ∧ Kept w wr (fun b => b = g)) (fun _ i _ => n - (intOf i).toNat)
  case atStart => exact ⟨0, f, Nat.zero_le _, rfl, by simp, ho, Kept.refl _ _⟩
  case round =>
    obtain ⟨t, f, ht, rfl, rfl, hown, hk⟩ := hrel
    by_cases hlt : t < n
    · have hc0 := own_cell hown (t * 2) (by omega) rfl
      have hc1 := own_cell hown (t * 2 + 1) (by omega) rfl
      have hf0 := hown.frozenAt (t * 2)
      have hf1 := hown.frozenAt (t * 2 + 1)
      go_wp2
      go_roundw
      case rel => exact ⟨t + 1, _, by omega, by go_num, by go_num, own_store (own_store hown (t * 2) _) (t * 2 + 1) _, (hk.set (a := ⟨g, t * 2, none⟩) rfl _).set (a := ⟨g, t * 2 + 1, none⟩) rfl _⟩
      case measure => simp [intOf]; omega
    · obtain rfl : t = n := by omega
      go_wp2
      go_ret
      exact ⟨rfl, ⟨_, hown⟩, hk⟩
theorem markCabinS_own (g n base : Nat) (f : Nat → Value) (k0 : Int) (w : World) (hn : n ≤ 1048576) (h0 : 0 ≤ k0) (h1 : k0 ≤ 1000000000000000) (ho : w.ownsRow base 124 2 (.slice (some ⟨g, 0, none⟩) n n) n ((List.range (n * 2)).map f)) :
    Calls Tryz.prog 76 #[.slice (some ⟨g, 0, none⟩) n n, .int .i64 k0] w fun e w' => e = .returned (.int .i64 (k0 + 2 * n)) ∧ (∃ f, w'.ownsRow base 124 2 (.slice (some ⟨g, 0, none⟩) n n) n ((List.range (n * 2)).map f)) ∧ Kept w w' (fun b => b = g) := by
  go_enter Tryz.func76, Tryz.ntmps76
  go_wp2
  go_loopw [1, 5] (fun q i wr => ∃ (t : Nat) (f : Nat → Value), t ≤ n ∧ i = .int .i64 t ∧ q = .int .i64 (k0 + 2 * t) ∧ wr.ownsRow base 124 2 (.slice (some ⟨g, 0, none⟩) n n) n ((List.range (n * 2)).map f) ∧ Kept w wr (fun b => b = g)) (fun _ i _ => n - (intOf i).toNat)
  case atStart => exact ⟨0, f, Nat.zero_le _, rfl, by simp, ho, Kept.refl _ _⟩
  case round =>
    obtain ⟨t, f, ht, rfl, rfl, hown, hk⟩ := hrel
    by_cases hlt : t < n
    · have hc0 := own_cell hown (t * 2) (by omega) rfl
      have hc1 := own_cell hown (t * 2 + 1) (by omega) rfl
      have hf0 := hown.frozenAt (t * 2)
      have hf1 := hown.frozenAt (t * 2 + 1)
      go_wp2
      go_roundw
      case rel => exact ⟨t + 1, _, by omega, by go_num, by go_num, own_store (own_store hown (t * 2) _) (t * 2 + 1) _, (hk.set (a := ⟨g, t * 2, none⟩) rfl _).set (a := ⟨g, t * 2 + 1, none⟩) rfl _⟩
      case measure => simp [intOf]; omega
    · obtain rfl : t = n := by omega
      go_wp2
      go_ret
      exact ⟨rfl, ⟨_, hown⟩, hk⟩
end Go.Proofs.YtlelckbeoclhbaaGreat

namespace Go.Proofs.YtlelckbeoclhbaaGreat
open Go.RowKit
structure MarkIs (w : World) (base g N : Nat) (n m l c : Nat → Nat) : Prop where
  ord : ∀ i, i < N → g < l i ∧ l i < c i
  rise : ∀ i j, i < j → j < N → c i < l j
  row : ∃ f, w.ownsRow base 54 8 (.slice (some ⟨g, 0, none⟩) N N) N ((List.range (N * 8)).map f) ∧ ∀ i, i < N → f (i * 8 + 5) = whole (l i) (n i) ∧ f (i * 8 + 6) = whole (c i) (m i)
  lanes : ∀ i, i < N → ∃ f, w.ownsRow base 122 2 (whole (l i) (n i)) (n i) ((List.range (n i * 2)).map f)
  cabins : ∀ i, i < N → ∃ f, w.ownsRow base 124 2 (whole (c i) (m i)) (m i) ((List.range (m i * 2)).map f)
theorem whole_block {b n g : Nat} (h : (whole b n).ownBlock = some g) : b = g := by
  simpa only [whole, Value.ownBlock, Option.some.injEq] using h
section
variable {w w' : World} {base g N : Nat} {n m l c : Nat → Nat}
theorem MarkIs.cell (h : MarkIs w base g N n m l c) (j : Nat) (hj : j < N * 8) : ∃ v, w.cell? ⟨g, j, none⟩ = some v := by
  obtain ⟨f, hf, _⟩ := h.row
  exact ⟨_, own_cell hf j hj rfl⟩
theorem MarkIs.ice (h : MarkIs w base g N n m l c) (j : Nat) : w.frozen? ⟨g, j, none⟩ = false := by
  obtain ⟨f, hf, _⟩ := h.row
  exact hf.frozenAt j
theorem MarkIs.lane (h : MarkIs w base g N n m l c) {t : Nat} (ht : t < N) : w.cell? ⟨g, t * 8 + 5, none⟩ = some (.slice (some ⟨l t, 0, none⟩) (n t) (n t)) := by
  obtain ⟨f, hf, h5⟩ := h.row
  rw [own_cell hf (t * 8 + 5) (by omega) rfl, (h5 t ht).1]; rfl
theorem MarkIs.cabin (h : MarkIs w base g N n m l c) {t : Nat} (ht : t < N) : w.cell? ⟨g, t * 8 + 6, none⟩ = some (.slice (some ⟨c t, 0, none⟩) (m t) (m t)) := by
  obtain ⟨f, hf, h5⟩ := h.row
  rw [own_cell hf (t * 8 + 6) (by omega) rfl, (h5 t ht).2]; rfl
theorem MarkIs.below (h : MarkIs w base g N n m l c) (hb : Below w.heap.size w w') : MarkIs w' base g N n m l c := by
  refine ⟨h.ord, h.rise, ?_, fun i hi => ?_, fun i hi => ?_⟩
  · obtain ⟨f, hf, h5⟩ := h.row; exact ⟨f, own_below hb hf, h5⟩
  · obtain ⟨f, hf⟩ := h.lanes i hi; exact ⟨f, own_below hb hf⟩
  · obtain ⟨f, hf⟩ := h.cabins i hi; exact ⟨f, own_below hb hf⟩
theorem MarkIs.put (h : MarkIs w base g N n m l c) (j : Nat) (h5 : j % 8 ≠ 5) (h6 : j % 8 ≠ 6) (u : Value) : MarkIs (w.setCell ⟨g, j, none⟩ u) base g N n m l c := by
  have hk : Kept w (w.setCell ⟨g, j, none⟩ u) (fun b => b = g) := (Kept.refl w (fun b => b = g)).set (a := ⟨g, j, none⟩) rfl u
  refine ⟨h.ord, h.rise, ?_, fun i hi => ?_, fun i hi => ?_⟩
  · obtain ⟨f, hf, hx⟩ := h.row
    refine ⟨_, own_store hf j u, fun i hi => ?_⟩
    rw [if_neg (by omega), if_neg (by omega)]
    exact hx i hi
  · obtain ⟨f, hf⟩ := h.lanes i hi
    exact ⟨f, hk.own hf (fun b hb e => by have := whole_block hb; have := h.ord i hi; omega)⟩
  · obtain ⟨f, hf⟩ := h.cabins i hi
    exact ⟨f, hk.own hf (fun b hb e => by have := whole_block hb; have := h.ord i hi; omega)⟩
theorem MarkIs.apart (h : MarkIs w base g N n m l c) {i j : Nat} (hi : i < N) (hj : j < N) : (i ≠ j → l i ≠ l j ∧ c i ≠ c j) ∧ l i ≠ c j := by
  have a := h.ord i hi
  have b := h.ord j hj
  rcases Nat.lt_trichotomy i j with e | e | e
  · have := h.rise i j e hj; exact ⟨fun _ => ⟨by omega, by omega⟩, by omega⟩
  · subst e; exact ⟨fun x => absurd rfl x, by omega⟩
  · have := h.rise j i e hi; exact ⟨fun _ => ⟨by omega, by omega⟩, by omega⟩
theorem MarkIs.keptL (h : MarkIs w base g N n m l c) {t : Nat} (ht : t < N) (hk : Kept w w' (fun b => b = l t)) (ho : ∃ f, w'.ownsRow base 122 2 (whole (l t) (n t)) (n t) ((List.range (n t * 2)).map f)) : MarkIs w' base g N n m l c := by
  refine ⟨h.ord, h.rise, ?_, fun i hi => ?_, fun i hi => ?_⟩
  · obtain ⟨f, hf, hx⟩ := h.row
    exact ⟨f, hk.own hf (fun b hb e => by have := whole_block hb; have := h.ord t ht; omega), hx⟩
  · by_cases e : i = t
    · subst e; exact ho
    · obtain ⟨f, hf⟩ := h.lanes i hi
      exact ⟨f, hk.own hf (fun b hb e' => by have := whole_block hb; have := ((h.apart hi ht).1 e).1; omega)⟩
  · obtain ⟨f, hf⟩ := h.cabins i hi
    exact ⟨f, hk.own hf (fun b hb e' => by have := whole_block hb; have := (h.apart ht hi).2; omega)⟩
theorem MarkIs.keptC (h : MarkIs w base g N n m l c) {t : Nat} (ht : t < N) (hk : Kept w w' (fun b => b = c t)) (ho : ∃ f, w'.ownsRow base 124 2 (whole (c t) (m t)) (m t) ((List.range (m t * 2)).map f)) : MarkIs w' base g N n m l c := by
  refine ⟨h.ord, h.rise, ?_, fun i hi => ?_, fun i hi => ?_⟩
  · obtain ⟨f, hf, hx⟩ := h.row
    exact ⟨f, hk.own hf (fun b hb e => by have := whole_block hb; have := h.ord t ht; omega), hx⟩
  · obtain ⟨f, hf⟩ := h.lanes i hi
    exact ⟨f, hk.own hf (fun b hb e' => by have := whole_block hb; have := (h.apart hi ht).2; omega)⟩
  · by_cases e : i = t
    · subst e; exact ho
    · obtain ⟨f, hf⟩ := h.cabins i hi
      exact ⟨f, hk.own hf (fun b hb e' => by have := whole_block hb; have := ((h.apart hi ht).1 e).2; omega)⟩
end
theorem SailsTo.mark {w : World} {lo g N : Nat} {S : Nat → Sail} {l c : Nat → Nat} (r : SailsTo w 54 122 124 N lo g N S l c) (hN : N ≤ 1048576) (hL : ∀ i, i < N → (S i).la.n ≤ 1048576) (hC : ∀ i, i < N → (S i).ca.n ≤ 1048576) :
    MarkIs w lo g N (fun i => (S i).la.n) (fun i => (S i).ca.n) l c := by
  have hlo := r.lo
  refine ⟨fun i hi => ⟨(r.lanes i hi).1, (r.cabins i hi).1⟩, r.rise, ⟨_, own_of_row r.row r.lo (by unfold maxLen; omega), fun i hi => ?_⟩, fun i hi => ?_, fun i hi => ?_⟩
  · rw [sailCell_5, sailCell_6, upto_lt _ _ hi, upto_lt _ _ hi]; exact ⟨rfl, rfl⟩
  · exact ⟨_, own_of_row (r.lanes i hi).2 (by have := (r.lanes i hi).1; omega) (by have := hL i hi; unfold maxLen; omega)⟩
  · exact ⟨_, own_of_row (r.cabins i hi).2 (by have := (r.lanes i hi).1; have := (r.cabins i hi).1; omega) (by have := hC i hi; unfold maxLen; omega)⟩
theorem markSailingS_own (g N B base k0 : Nat) (n m l c : Nat → Nat) (w : World) (hN : N ≤ 1048576) (hk0 : k0 ≤ 1048576) (hn : ∀ i, i < N → n i ≤ 1048576) (hm : ∀ i, i < N → m i ≤ 1048576) (hg : g < B) (hB : ∀ i, i < N → c i < B) (ho : MarkIs w base g N n m l c) :
    Calls Tryz.prog 35 #[.slice (some ⟨g, 0, none⟩) N N, .int .i64 k0] w fun e w' => (∃ k : Nat, k ≤ 10000000000000 ∧ e = .returned (.int .i64 k)) ∧ Kept w w' (fun b => g ≤ b ∧ b < B) := by
  have HN : Hid (∀ i, i < N → n i ≤ 1048576 ∧ m i ≤ 1048576 ∧ c i < B) := fun i hi => ⟨hn i hi, hm i hi, hB i hi⟩
  clear hn hm hB
  go_enter Tryz.func35, Tryz.ntmps35
  go_wp2
  go_loopw [1, 5] (fun q i wr => ∃ t k : Nat, t ≤ N ∧ i = .int .i64 t ∧ q = .int .i64 k ∧ k ≤ 1048576 + t * 4194310 ∧ MarkIs wr base g N n m l c ∧ Kept w wr (fun b => g ≤ b ∧ b < B)) (fun _ i _ => N - (intOf i).toNat)
  case atStart => exact ⟨0, k0, Nat.zero_le _, rfl, rfl, by omega, ho, Kept.refl _ _⟩
  case round =>
    obtain ⟨t, k, ht, rfl, rfl, hkk, hM, hk⟩ := hrel
    by_cases hlt : t < N
    · have sN := HN.out t hlt
      have oN := hM.ord t hlt
      obtain ⟨v0, hc0⟩ := hM.cell (t * 8) (by omega)
      have hf0 := hM.ice (t * 8)
      go_wp2_with fail
      refine (markText_int _ _ (by omega) (by omega)).mono ?_
      rintro e w2 ⟨⟨s, rfl⟩, hb2⟩
      have hM2 := (hM.put (t * 8) (by omega) (by omega) (.int .i64 k)).below hb2
      have hk2 := (hk.set (a := ⟨g, t * 8, none⟩) ⟨Nat.le_refl g, hg⟩ (.int .i64 k)).trans (Kept.of_below hb2)
      clear hM hk hc0 hf0 hb2
      obtain ⟨v1, hc1⟩ := hM2.cell (t * 8 + 1) (by omega)
      have hf1 := hM2.ice (t * 8 + 1)
      go_wp2_with fail
      refine (markText_int _ _ (by omega) (by omega)).mono ?_
      rintro e w3 ⟨⟨s', rfl⟩, hb3⟩
      have hM3 := (hM2.put (t * 8 + 1) (by omega) (by omega) (.string s)).below hb3
      have hk3 := (hk2.set (a := ⟨g, t * 8 + 1, none⟩) ⟨Nat.le_refl g, hg⟩ (.string s)).trans (Kept.of_below hb3)
      clear hM2 hk2 hc1 hf1 hb3
      have hM4 := ((hM3.put (t * 8 + 2) (by omega) (by omega) (.string s')).put (t * 8 + 3) (by omega) (by omega) (.int .i64 (k + 1 + 1 + 1))).put (t * 8 + 4) (by omega) (by omega) (.int .i64 (k + 1 + 1 + 1 + 1))
      have hk4 := ((hk3.set (a := ⟨g, t * 8 + 2, none⟩) ⟨Nat.le_refl g, hg⟩ (.string s')).set (a := ⟨g, t * 8 + 3, none⟩) ⟨Nat.le_refl g, hg⟩ (.int .i64 (k + 1 + 1 + 1))).set (a := ⟨g, t * 8 + 4, none⟩) ⟨Nat.le_refl g, hg⟩ (.int .i64 (k + 1 + 1 + 1 + 1))
      obtain ⟨v2, hc2⟩ := hM3.cell (t * 8 + 2) (by omega)
      obtain ⟨v3, hc3⟩ := hM3.cell (t * 8 + 3) (by omega)
      obtain ⟨v4, hc4⟩ := hM3.cell (t * 8 + 4) (by omega)
      have hc5 := hM3.lane hlt
      have hf2 := hM3.ice (t * 8 + 2)
      have hf3 := hM3.ice (t * 8 + 3)
      have hf4 := hM3.ice (t * 8 + 4)
      go_wp2_with fail
      obtain ⟨F, hF⟩ := hM4.lanes t hlt
      refine (markLaneS_own (l t) (n t) base F _ _ sN.1 (by omega) (by omega) hF).mono ?_
      rintro e w5 ⟨rfl, ho5, hb5⟩
      have hM5 := hM4.keptL hlt hb5 ho5
      have hk5 := hk4.trans (hb5.mono (fun b e => ⟨by omega, by omega⟩))
      clear hM3 hk3 hM4 hk4 hF ho5 hb5 hc2 hc3 hc4 hc5 hf2 hf3 hf4
      have hc6 := hM5.cabin hlt
      obtain ⟨G, hG⟩ := hM5.cabins t hlt
      go_wp2_with fail
      refine (markCabinS_own (c t) (m t) base G _ _ sN.2.1 (by omega) (by omega) hG).mono ?_
      rintro e w6 ⟨rfl, ho6, hb6⟩
      have hM6 := hM5.keptC hlt hb6 ho6
      have hk6 := hk5.trans (hb6.mono (fun b e => ⟨by omega, by omega⟩))
      clear hM5 hk5 hG ho6 hb6 hc6
      obtain ⟨v7, hc7⟩ := hM6.cell (t * 8 + 7) (by omega)
      have hf7 := hM6.ice (t * 8 + 7)
      go_wp2
      go_roundw
      case rel => exact ⟨t + 1, k + 5 + 2 * n t + 2 * m t + 1, by omega, by go_num, by congr 1, by omega, hM6.put (t * 8 + 7) (by omega) (by omega) _, hk6.set (a := ⟨g, t * 8 + 7, none⟩) ⟨Nat.le_refl g, hg⟩ _⟩
      case measure => simp [intOf]; omega
    · obtain rfl : t = N := by omega
      go_wp2
      go_ret
      exact ⟨⟨k, by omega, rfl⟩, hk⟩
end Go.Proofs.YtlelckbeoclhbaaGreat

namespace Go.Proofs.YtlelckbeoclhbaaGreat
open Go.RowKit
structure BMark (w : World) (base g N : Nat) (n l : Nat → Nat) : Prop where
  ord : ∀ i, i < N → g < l i
  row : ∃ f, w.ownsRow base 72 13 (.slice (some ⟨g, 0, none⟩) N N) N ((List.range (N * 13)).map f) ∧ ∀ i, i < N → f (i * 13 + 3) = whole (l i) (n i)
  legs : ∀ i, i < N → IntRow w base (l i) (n i)
section
variable {w w' : World} {base g N : Nat} {n l : Nat → Nat}
theorem BMark.cell (h : BMark w base g N n l) (j : Nat) (hj : j < N * 13) : ∃ v, w.cell? ⟨g, j, none⟩ = some v := by
  obtain ⟨f, hf, _⟩ := h.row
  exact ⟨_, own_cell hf j hj rfl⟩
theorem BMark.ice (h : BMark w base g N n l) (j : Nat) : w.frozen? ⟨g, j, none⟩ = false := by
  obtain ⟨f, hf, _⟩ := h.row
  exact hf.frozenAt j
theorem BMark.leg (h : BMark w base g N n l) {t : Nat} (ht : t < N) : w.cell? ⟨g, t * 13 + 3, none⟩ = some (.slice (some ⟨l t, 0, none⟩) (n t) (n t)) := by
  obtain ⟨f, hf, h5⟩ := h.row
  rw [own_cell hf (t * 13 + 3) (by omega) rfl, h5 t ht]; rfl
theorem BMark.below (h : BMark w base g N n l) (hb : Below w.heap.size w w') : BMark w' base g N n l := by
  refine ⟨h.ord, ?_, fun i hi => ?_⟩
  · obtain ⟨f, hf, h5⟩ := h.row; exact ⟨f, own_below hb hf, h5⟩
  · exact (h.legs i hi).kept (Kept.of_below (S := fun _ => False) hb) (fun h => h)
theorem BMark.put (h : BMark w base g N n l) (j : Nat) (h5 : j % 13 ≠ 3) (u : Value) : BMark (w.setCell ⟨g, j, none⟩ u) base g N n l := by
  have hk : Kept w (w.setCell ⟨g, j, none⟩ u) (fun b => b = g) := (Kept.refl w (fun b => b = g)).set (a := ⟨g, j, none⟩) rfl u
  refine ⟨h.ord, ?_, fun i hi => ?_⟩
  · obtain ⟨f, hf, hx⟩ := h.row
    refine ⟨_, own_store hf j u, fun i hi => ?_⟩
    rw [if_neg (by omega)]
    exact hx i hi
  · exact (h.legs i hi).kept hk (fun e => by have := h.ord i hi; omega)
theorem BMark.mark (h : BMark w base g N n l) {t : Nat} (ht : t < N) (hk : Kept w w' (fun b => b = l t)) (ho : IntRow w' base (l t) (n t)) : BMark w' base g N n l := by
  refine ⟨h.ord, ?_, fun i hi => ?_⟩
  · obtain ⟨f, hf, hx⟩ := h.row
    exact ⟨f, hk.own hf (fun b hb e => by simp only [Value.ownBlock, Option.some.injEq] at hb; have := h.ord t ht; omega), hx⟩
  · exact (h.legs i hi).after (h.legs t ht) hk (by omega) (fun _ => rfl) (fun _ e => by rw [e]; exact ho)
end
theorem markBookingS_own (g N lo hi k0 : Nat) (S : Nat → Book) (C : Nat → List Value) (w : World) (hN : N ≤ 1048576) (hk0 : k0 ≤ 30000000000000) (hs : BooksShort N S 1048576) (ho : BooksTo w N lo hi g N S C) :
    Calls Tryz.prog 37 #[.slice (some ⟨g, 0, none⟩) N N, .int .i64 k0] w fun e w' => (∃ k : Nat, e = .returned (.int .i64 k)) ∧ Kept w w' (fun b => lo ≤ b ∧ b < hi) := by
  have key : ∀ i, i < N → ∃ q : Nat, (g < q ∧ q < hi) ∧ (C i).getD 3 (.bool false) = whole q (S i).lgn ∧ IntRow w lo q (S i).lgn := by
    intro i hi'
    obtain ⟨a, e, ha⟩ := ho.each i hi'
    have sh := hs i hi'
    have gl := ho.glo
    unfold Book.Short at sh
    exact ⟨a, ⟨Nat.lt_of_succ_le ha.1, ha.2.1⟩, by rw [e]; rfl, ⟨_, ⟨_, rfl⟩, by have := own_of_row (size := 1) (n := (S i).lgn) (by rw [Nat.mul_one]; exact ha.2.2) (Nat.le_trans (Nat.le_succ_of_le gl) ha.1) (by unfold maxLen; omega); rw [Nat.mul_one] at this; exact this⟩⟩
  obtain ⟨l, hp⟩ := Go.Deep.choose_lt key
  have hM0 : BMark w lo g N (fun i => (S i).lgn) l := by
    refine ⟨fun i hi' => (hp i hi').1.1, ⟨_, own_of_row ho.row ho.glo (by unfold maxLen; omega), fun i hi' => ?_⟩, fun i hi' => (hp i hi').2.2⟩
    rw [recCell_at 13 _ i 3 (by omega), upto_lt _ _ hi', (hp i hi').2.1]
  have HP : Hid (∀ i, i < N → (S i).lgn ≤ 1048576 ∧ g < l i ∧ l i < hi) := fun i hi' => ⟨(hs i hi').2, (hp i hi').1⟩
  have hgl := ho.glo
  have hgh := ho.ghi
  clear hs ho key hp
  go_enter Tryz.func37, Tryz.ntmps37
  go_wp2
  go_loopw [1, 5] (fun q i wr => ∃ t k : Nat, t ≤ N ∧ i = .int .i64 t ∧ q = .int .i64 k ∧ k ≤ 30000000000000 + t * 1048600 ∧ BMark wr lo g N (fun i => (S i).lgn) l ∧ Kept w wr (fun b => g ≤ b ∧ b < hi)) (fun _ i _ => N - (intOf i).toNat)
  case atStart => exact ⟨0, k0, Nat.zero_le _, rfl, rfl, by omega, hM0, Kept.refl _ _⟩
  case round =>
    obtain ⟨t, k, ht, rfl, rfl, hkk, hM, hk⟩ := hrel
    by_cases hlt : t < N
    · obtain ⟨n1, b1, b2⟩ := HP.out t hlt
      obtain ⟨v0, hc0⟩ := hM.cell (t * 13) (by omega)
      obtain ⟨v1, hc1⟩ := hM.cell (t * 13 + 1) (by omega)
      have hf0 := hM.ice (t * 13)
      have hf1 := hM.ice (t * 13 + 1)
      go_wp2_with fail
      refine (markText_int _ _ (by omega) (by omega)).mono ?_
      rintro e w2 ⟨⟨s, rfl⟩, hb2⟩
      have hM2 := ((hM.put (t * 13) (by omega) (.int .i64 k)).put (t * 13 + 1) (by omega) (.int .i64 (k + 1))).below hb2
      have hk2 := ((hk.set (a := ⟨g, t * 13, none⟩) ⟨Nat.le_refl g, hgh⟩ (.int .i64 k)).set (a := ⟨g, t * 13 + 1, none⟩) ⟨Nat.le_refl g, hgh⟩ (.int .i64 (k + 1))).trans (Kept.of_below hb2)
      clear hM hk hc0 hf0 hc1 hf1 hb2
      obtain ⟨v2, hc2⟩ := hM2.cell (t * 13 + 2) (by omega)
      have hf2 := hM2.ice (t * 13 + 2)
      have hc3 := hM2.leg hlt
      have hM3 := hM2.put (t * 13 + 2) (by omega) (.string s)
      have hk3 := hk2.set (a := ⟨g, t * 13 + 2, none⟩) ⟨Nat.le_refl g, hgh⟩ (.string s)
      go_wp2_with fail
      have r1 : IntRow (w2.setCell ⟨g, t * 13 + 2, none⟩ (.string s)) lo (l t) (S t).lgn := hM3.legs t hlt
      refine (markInt_row n1 (by omega) (by omega) r1).mono ?_
      rintro e w4 ⟨rfl, o4, k4⟩
      have hM4 := hM3.mark hlt k4 o4
      have hk4 := hk3.trans (k4.mono (fun b e => by have e : b = l t := e; exact ⟨by omega, by omega⟩))
      clear hM2 hk2 hM3 hk3 hc2 hf2 hc3 r1 o4 k4 w2
      obtain ⟨v4, hc4⟩ := hM4.cell (t * 13 + 4) (by omega)
      have hf4 := hM4.ice (t * 13 + 4)
      obtain ⟨v5, hc5⟩ := hM4.cell (t * 13 + 5) (by omega)
      have hf5 := hM4.ice (t * 13 + 5)
      obtain ⟨v6, hc6⟩ := hM4.cell (t * 13 + 6) (by omega)
      have hf6 := hM4.ice (t * 13 + 6)
      obtain ⟨v7, hc7⟩ := hM4.cell (t * 13 + 7) (by omega)
      have hf7 := hM4.ice (t * 13 + 7)
      obtain ⟨v8, hc8⟩ := hM4.cell (t * 13 + 8) (by omega)
      have hf8 := hM4.ice (t * 13 + 8)
      obtain ⟨v9, hc9⟩ := hM4.cell (t * 13 + 9) (by omega)
      have hf9 := hM4.ice (t * 13 + 9)
      obtain ⟨v10, hc10⟩ := hM4.cell (t * 13 + 10) (by omega)
      have hf10 := hM4.ice (t * 13 + 10)
      obtain ⟨v11, hc11⟩ := hM4.cell (t * 13 + 11) (by omega)
      have hf11 := hM4.ice (t * 13 + 11)
      obtain ⟨v12, hc12⟩ := hM4.cell (t * 13 + 12) (by omega)
      have hf12 := hM4.ice (t * 13 + 12)
      go_wp2
      go_roundw
      case rel => exact ⟨t + 1, k + 12 + (S t).lgn, by omega, by go_num, by go_num, by omega, ((((((((hM4.put (t * 13 + 4) (by omega) _).put (t * 13 + 5) (by omega) _).put (t * 13 + 6) (by omega) _).put (t * 13 + 7) (by omega) _).put (t * 13 + 8) (by omega) _).put (t * 13 + 9) (by omega) _).put (t * 13 + 10) (by omega) _).put (t * 13 + 11) (by omega) _).put (t * 13 + 12) (by omega) _, ((((((((hk4.set (a := ⟨g, t * 13 + 4, none⟩) ⟨Nat.le_refl g, hgh⟩ _).set (a := ⟨g, t * 13 + 5, none⟩) ⟨Nat.le_refl g, hgh⟩ _).set (a := ⟨g, t * 13 + 6, none⟩) ⟨Nat.le_refl g, hgh⟩ _).set (a := ⟨g, t * 13 + 7, none⟩) ⟨Nat.le_refl g, hgh⟩ _).set (a := ⟨g, t * 13 + 8, none⟩) ⟨Nat.le_refl g, hgh⟩ _).set (a := ⟨g, t * 13 + 9, none⟩) ⟨Nat.le_refl g, hgh⟩ _).set (a := ⟨g, t * 13 + 10, none⟩) ⟨Nat.le_refl g, hgh⟩ _).set (a := ⟨g, t * 13 + 11, none⟩) ⟨Nat.le_refl g, hgh⟩ _).set (a := ⟨g, t * 13 + 12, none⟩) ⟨Nat.le_refl g, hgh⟩ _⟩
      case measure => simp [intOf]; omega
    · obtain rfl : t = N := by omega
      go_wp2
      go_ret
      exact ⟨⟨k, rfl⟩, hk.mono (fun b e => by have e : g ≤ b ∧ b < hi := e; exact ⟨by omega, by omega⟩)⟩
end Go.Proofs.YtlelckbeoclhbaaGreat
