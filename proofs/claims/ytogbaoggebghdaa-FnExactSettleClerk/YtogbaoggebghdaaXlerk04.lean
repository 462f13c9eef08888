/-
  OWN TEXT: MarkMRm, MarkClerk.
-/
import Derived.Deep.RegionHeld3
import Derived.Test.YtogbaoggebghdaaB02
import Derived.Test.YtogbaoggebghdaaXlerk03
import Derived.Test.YtogbaoggebghdaaB05
import Derived.Test.YtogbaoggebghdaaXlerk02
namespace Go.Proofs.Ytogbaoggebghdaa
open Go.RowKit

theorem markText_isI (z : Int) (w : World) (h0 : 0 ≤ z) (hk : z ≤ 1000000000000000) :
    Calls Try.prog 57 #[.int .i64 z] w fun e w' => e = .returned (.string (markT z.toNat)) ∧ Below w.heap.size w w' := by
  obtain ⟨q, rfl⟩ := Int.eq_ofNat_of_zero_le h0
  exact markText_is q w (by omega)
/-- What a marked row holds. -/
def rowMark (k0 : Nat) (i : Nat) : MRow := ⟨(k0 : Int) + 5 * i, markT (k0 + 5 * i + 1), (k0 : Int) + 5 * i + 2, (k0 : Int) + 5 * i + 3, (k0 : Int) + 5 * i + 4⟩

set_option maxHeartbeats 1600000 in
set_option maxRecDepth 100000 in
theorem markRowS_own (ao : Option Addr) (n c base k0 : Nat) (S : Nat → MRow) (w : World) (hn : n ≤ 2097152) (h1 : k0 ≤ 100000000000000) (ho : w.ownsRow base 84 5 (.slice ao n c) n (rowList S n)) :
    Calls Try.prog 58 #[.slice ao n c, .int .i64 k0] w fun e w' => e = .returned (.int .i64 ((k0 + 5 * n : Nat) : Int)) ∧ w'.ownsRow base 84 5 (.slice ao n c) n (rowList (rowMark k0) n) ∧ Kept w w' (fun b => (Value.slice ao n c).ownBlock = some b) := by
  go_enter Try.func58, Try.ntmps58
  go_wp2
  go_loopw [1, 5] (fun q i wr => ∃ (t k : Nat), t ≤ n ∧ i = .int .i64 t ∧ q = .int .i64 k ∧ k = k0 + 5 * t ∧ wr.ownsRow base 84 5 (.slice ao n c) n ((List.range (n * 5)).map (rowCell (fun i => if i < t then rowMark k0 i else S i))) ∧ Kept w wr (fun b => (Value.slice ao n c).ownBlock = some b)) (fun _ i _ => n - (intOf i).toNat)
  case atStart => exact ⟨0, k0, Nat.zero_le _, rfl, rfl, by omega, by simpa [rowList] using ho, Kept.refl _ _⟩
  case round =>
    obtain ⟨t, k, ht, rfl, rfl, hkk, hown, hk⟩ := hrel
    have HKK : Hid (k = k0 + 5 * t) := hkk
    have kb : k ≤ 200000000000000 := by omega
    clear hkk
    by_cases hlt : t < n
    · obtain ⟨g, rfl, hg1, hg2⟩ := own_addr hown (by omega)
      obtain ⟨v0, hc0⟩ : ∃ v, wr.cell? ⟨g, t * 5, none⟩ = some v := ⟨_, own_cell hown (t * 5) (by omega) rfl⟩
      have hf0 := hown.frozenAt (t * 5)
      go_wp2_with fail
      refine (markText_isI _ _ (by omega) (by omega)).mono ?_
      rintro e w2 ⟨rfl, hb2⟩
      have hown2 := own_below hb2 (own_store hown (t * 5) (.int .i64 k))
      have hk2 := (hk.set (a := ⟨g, t * 5, none⟩) rfl (.int .i64 k)).trans (Kept.of_below hb2)
      clear hc0 hf0 hb2 hown hk
      obtain ⟨v1, hc1⟩ : ∃ v, w2.cell? ⟨g, t * 5 + 1, none⟩ = some v := ⟨_, own_cell hown2 (t * 5 + 1) (by omega) rfl⟩
      have hf1 := hown2.frozenAt (t * 5 + 1)
      obtain ⟨v2, hc2⟩ : ∃ v, w2.cell? ⟨g, t * 5 + 2, none⟩ = some v := ⟨_, own_cell hown2 (t * 5 + 2) (by omega) rfl⟩
      have hf2 := hown2.frozenAt (t * 5 + 2)
      obtain ⟨v3, hc3⟩ : ∃ v, w2.cell? ⟨g, t * 5 + 3, none⟩ = some v := ⟨_, own_cell hown2 (t * 5 + 3) (by omega) rfl⟩
      have hf3 := hown2.frozenAt (t * 5 + 3)
      obtain ⟨v4, hc4⟩ : ∃ v, w2.cell? ⟨g, t * 5 + 4, none⟩ = some v := ⟨_, own_cell hown2 (t * 5 + 4) (by omega) rfl⟩
      have hf4 := hown2.frozenAt (t * 5 + 4)
      have htx : ((k : Int) + 1).toNat = k0 + 5 * t + 1 := by have := HKK.out; omega
      rw [htx]
      clear htx
      go_wp2
      go_roundw
      case rel =>
        refine ⟨t + 1, k + 5, by omega, by go_num, by go_num, by have := HKK.out; omega, own_congr (own_store (own_store (own_store (own_store hown2 (t * 5 + 1) _) (t * 5 + 2) _) (t * 5 + 3) _) (t * 5 + 4) _) (fun j hj => ?_), ((((hk2.set (a := ⟨g, t * 5 + 1, none⟩) rfl _).set (a := ⟨g, t * 5 + 2, none⟩) rfl _).set (a := ⟨g, t * 5 + 3, none⟩) rfl _).set (a := ⟨g, t * 5 + 4, none⟩) rfl _)⟩
        have e0 : (k : Int) = (k0 : Int) + 5 * t := by have := HKK.out; omega
        have key : ∀ (S' : Nat → MRow), (∀ i, i ≠ t → S' i = (if i < t then rowMark k0 i else S i)) → (S' t = rowMark k0 t) → rowCell S' j = rowCell (fun i => if i < t + 1 then rowMark k0 i else S i) j := by
          intro S' h1 h2
          unfold rowCell
          have : S' (j / 5) = (if j / 5 < t + 1 then rowMark k0 (j / 5) else S (j / 5)) := by
            by_cases e : j / 5 = t
            · rw [e, h2, if_pos (by omega)]
            · rw [h1 _ e]
              by_cases e2 : j / 5 < t
              · rw [if_pos e2, if_pos (by omega)]
              · rw [if_neg e2, if_neg (by omega)]
          rw [this]
        rw [← key (fun i => if i = t then rowMark k0 t else if i < t then rowMark k0 i else S i) (fun i h => if_neg h) (if_pos rfl)]
        by_cases h4 : j = t * 5 + 4
        · subst h4; rw [if_pos rfl, rowCell_4, if_pos rfl]; simp [rowMark]; try omega
        rw [if_neg h4]
        by_cases h3 : j = t * 5 + 3
        · subst h3; rw [if_pos rfl, rowCell_3, if_pos rfl]; simp [rowMark]; try omega
        rw [if_neg h3]
        by_cases h2 : j = t * 5 + 2
        · subst h2; rw [if_pos rfl, rowCell_2, if_pos rfl]; simp [rowMark]; try omega
        rw [if_neg h2]
        by_cases h1 : j = t * 5 + 1
        · subst h1; rw [if_pos rfl, rowCell_1, if_pos rfl]; simp [rowMark]; try omega
        rw [if_neg h1]
        by_cases h0 : j = t * 5
        · subst h0; rw [if_pos rfl, rowCell_0, if_pos rfl]; simp [rowMark]; try omega
        rw [if_neg h0]
        have hne : j / 5 ≠ t := by omega
        unfold rowCell
        simp only [if_neg hne]
      case measure => simp [intOf]; omega
    · obtain rfl : t = n := by omega
      go_wp2
      go_ret
      refine ⟨by rw [HKK.out]; rfl, ?_, hk⟩
      rw [rowList_congr (S := rowMark k0) (S' := fun i => if i < t then rowMark k0 i else S i) (fun i hi => (if_pos hi).symm)]
      exact hown

end Go.Proofs.Ytogbaoggebghdaa

namespace Go.Proofs.Ytogbaoggebghdaa
open Go.RowKit

def MRowRow (w : World) (base b n : Nat) : Prop := OwnAny w base 84 5 b n (fun xs => ∃ S, xs = rowList S n)
theorem markRow_row {w : World} {base b n : Nat} {k : Int} (hn : n ≤ 1048576) (h0 : 0 ≤ k) (h1 : k ≤ 100000000000000) (h : MRowRow w base b n) :
    Calls Try.prog 58 #[.slice (some ⟨b, 0, none⟩) n n, .int .i64 k] w fun e w' => e = .returned (.int .i64 (k + 5 * n)) ∧ MRowRow w' base b n ∧ Kept w w' (fun x => x = b) := by
  obtain ⟨_, ⟨S, rfl⟩, ho⟩ := h
  obtain ⟨q, rfl⟩ := Int.eq_ofNat_of_zero_le h0
  exact (markRowS_own _ n n base q S w (by omega) (by omega) ho).mono fun _ _ ⟨a, b, c⟩ => ⟨by rw [a]; simp, ⟨_, ⟨_, rfl⟩, b⟩, c.mono (fun x hx => by simp only [Value.ownBlock, Option.some.injEq] at hx; exact hx.symm)⟩

/-- A row of N clerks in the block g, whose rows lie in blocks behind g. -/
structure CMark (w : World) (base g N : Nat) (m r : Nat → Nat) : Prop where
  ord : ∀ i, i < N → g < r i
  row : ∃ f, w.ownsRow base 68 7 (.slice (some ⟨g, 0, none⟩) N N) N ((List.range (N * 7)).map f) ∧ ∀ i, i < N → f (i * 7 + 6) = whole (r i) (m i)
  rows : ∀ i, i < N → MRowRow w base (r i) (m i)

section
variable {w w' : World} {base g N : Nat} {m r : Nat → Nat}
theorem CMark.cell (h : CMark w base g N m r) (j : Nat) (hj : j < N * 7) : ∃ v, w.cell? ⟨g, j, none⟩ = some v := by
  obtain ⟨f, hf, _⟩ := h.row
  exact ⟨_, own_cell hf j hj rfl⟩
theorem CMark.ice (h : CMark w base g N m r) (j : Nat) : w.frozen? ⟨g, j, none⟩ = false := by
  obtain ⟨f, hf, _⟩ := h.row
  exact hf.frozenAt j
theorem CMark.rw_ (h : CMark w base g N m r) {t : Nat} (ht : t < N) : w.cell? ⟨g, t * 7 + 6, none⟩ = some (.slice (some ⟨r t, 0, none⟩) (m t) (m t)) := by
  obtain ⟨f, hf, h5⟩ := h.row
  rw [own_cell hf (t * 7 + 6) (by omega) rfl, h5 t ht]; rfl
theorem CMark.below (h : CMark w base g N m r) (hb : Below w.heap.size w w') : CMark w' base g N m r := by
  refine ⟨h.ord, ?_, fun i hi => ?_⟩
  · obtain ⟨f, hf, h5⟩ := h.row; exact ⟨f, own_below hb hf, h5⟩
  · exact (h.rows i hi).kept (Kept.of_below (S := fun _ => False) hb) (fun h => h)
theorem CMark.put (h : CMark w base g N m r) (j : Nat) (h5 : j % 7 ≠ 6) (u : Value) : CMark (w.setCell ⟨g, j, none⟩ u) base g N m r := by
  have hk : Kept w (w.setCell ⟨g, j, none⟩ u) (fun b => b = g) := (Kept.refl w (fun b => b = g)).set (a := ⟨g, j, none⟩) rfl u
  refine ⟨h.ord, ?_, fun i hi => ?_⟩
  · obtain ⟨f, hf, hx⟩ := h.row
    refine ⟨_, own_store hf j u, fun i hi => ?_⟩
    rw [if_neg (by omega)]
    exact hx i hi
  · exact (h.rows i hi).kept hk (fun e => by have := h.ord i hi; omega)
theorem CMark.markr (h : CMark w base g N m r) {t : Nat} (ht : t < N) (hk : Kept w w' (fun b => b = r t)) (ho : MRowRow w' base (r t) (m t)) : CMark w' base g N m r := by
  refine ⟨h.ord, ?_, fun i hi => ?_⟩
  · obtain ⟨f, hf, hx⟩ := h.row
    exact ⟨f, hk.own hf (fun b hb e => by simp only [Value.ownBlock, Option.some.injEq] at hb; have := h.ord t ht; omega), hx⟩
  · exact (h.rows i hi).after (h.rows t ht) hk (by omega) (fun _ => rfl) (fun _ e => by rw [e]; exact ho)
end

set_option maxHeartbeats 6400000 in
set_option maxRecDepth 100000 in
theorem markClerkS_own (g N lo hi k0 : Nat) (S : Nat → ClkD) (C : Nat → List Value) (w : World) (hN : N ≤ 1048576) (hk0 : k0 ≤ 30000000000000) (hs : ClkDsShort N S 1048576) (ho : ClkDsTo w N lo hi g N S C) :
    Calls Try.prog 20 #[.slice (some ⟨g, 0, none⟩) N N, .int .i64 k0] w fun e w' => (∃ k : Nat, k ≤ k0 + 10000000000000 ∧ e = .returned (.int .i64 k)) ∧ Kept w w' (fun b => lo ≤ b ∧ b < hi) := by
  have key : ∀ i, i < N → ∃ q : Nat, (g < q ∧ q < hi) ∧ (C i).getD 6 (.bool false) = whole q (S i).rwn ∧ MRowRow w lo q (S i).rwn := by
    intro i hi'
    obtain ⟨b, e, hb⟩ := ho.each i hi'
    have sh := hs i hi'
    have gl := ho.glo
    unfold ClkD.Short at sh
    have sr := sh.2.1
    exact ⟨b, ⟨Nat.lt_of_succ_le hb.1, hb.2.1⟩, by rw [e]; rfl, ⟨_, ⟨_, rfl⟩, own_of_row (size := 5) (n := (S i).rwn) hb.2.2 (Nat.le_trans (Nat.le_succ_of_le gl) hb.1) (by unfold maxLen; omega)⟩⟩
  obtain ⟨r, hp⟩ := Go.Deep.choose_lt key
  have hM0 : CMark w lo g N (fun i => (S i).rwn) r := by
    refine ⟨fun i hi' => (hp i hi').1.1, ⟨_, own_of_row ho.row ho.glo (by unfold maxLen; omega), fun i hi' => ?_⟩, fun i hi' => (hp i hi').2.2⟩
    rw [recCell_at 7 _ i 6 (by omega), upto_lt _ _ hi', (hp i hi').2.1]
  have HP : Hid (∀ i, i < N → (S i).rwn ≤ 1048576 ∧ g < r i ∧ r i < hi) := fun i hi' => ⟨(hs i hi').2.1, (hp i hi').1⟩
  have hgl := ho.glo
  have hgh := ho.ghi
  clear hs ho key hp
  go_enter Try.func20, Try.ntmps20
  go_wp2
  go_loopw [1, 5] (fun q i wr => ∃ t k : Nat, t ≤ N ∧ i = .int .i64 t ∧ q = .int .i64 k ∧ k ≤ k0 + t * 5242900 ∧ CMark wr lo g N (fun i => (S i).rwn) r ∧ Kept w wr (fun b => g ≤ b ∧ b < hi)) (fun _ i _ => N - (intOf i).toNat)
  case atStart => exact ⟨0, k0, Nat.zero_le _, rfl, rfl, by omega, hM0, Kept.refl _ _⟩
  case round =>
    obtain ⟨t, k, ht, rfl, rfl, hkk, hM, hk⟩ := hrel
    by_cases hlt : t < N
    · obtain ⟨n2, b3, b4⟩ := HP.out t hlt
      go_wp2_with fail
      refine (markText_int _ _ (by omega) (by omega)).mono ?_
      rintro e w2 ⟨⟨s, rfl⟩, hb2⟩
      have hM2 := hM.below hb2
      have hk2 := hk.trans (Kept.of_below hb2)
      clear hM hk hb2
      obtain ⟨v0, hc0⟩ := hM2.cell (t * 7) (by omega)
      have hf0 := hM2.ice (t * 7)
      obtain ⟨v1, hc1⟩ := hM2.cell (t * 7 + 1) (by omega)
      have hf1 := hM2.ice (t * 7 + 1)
      obtain ⟨v2, hc2⟩ := hM2.cell (t * 7 + 2) (by omega)
      have hf2 := hM2.ice (t * 7 + 2)
      obtain ⟨v3, hc3⟩ := hM2.cell (t * 7 + 3) (by omega)
      have hf3 := hM2.ice (t * 7 + 3)
      obtain ⟨v4, hc4⟩ := hM2.cell (t * 7 + 4) (by omega)
      have hf4 := hM2.ice (t * 7 + 4)
      obtain ⟨v5, hc5⟩ := hM2.cell (t * 7 + 5) (by omega)
      have hf5 := hM2.ice (t * 7 + 5)
      have hc6 := hM2.rw_ hlt
      go_wp2_with fail
      refine (markRow_row n2 (by omega) (by omega) (((((((hM2.put (t * 7) (by omega) (_)).put (t * 7 + 1) (by omega) (_)).put (t * 7 + 2) (by omega) (_)).put (t * 7 + 3) (by omega) (_)).put (t * 7 + 4) (by omega) (_)).put (t * 7 + 5) (by omega) (_)).rows t hlt)).mono ?_
      rintro e w6 ⟨rfl, o6, k6⟩
      have hM6 := ((((((hM2.put (t * 7) (by omega) (_)).put (t * 7 + 1) (by omega) (_)).put (t * 7 + 2) (by omega) (_)).put (t * 7 + 3) (by omega) (_)).put (t * 7 + 4) (by omega) (_)).put (t * 7 + 5) (by omega) (_)).markr hlt k6 o6
      have hk6 := ((((((hk2.set (a := ⟨g, t * 7, none⟩) ⟨Nat.le_refl g, hgh⟩ (_)).set (a := ⟨g, t * 7 + 1, none⟩) ⟨Nat.le_refl g, hgh⟩ (_)).set (a := ⟨g, t * 7 + 2, none⟩) ⟨Nat.le_refl g, hgh⟩ (_)).set (a := ⟨g, t * 7 + 3, none⟩) ⟨Nat.le_refl g, hgh⟩ (_)).set (a := ⟨g, t * 7 + 4, none⟩) ⟨Nat.le_refl g, hgh⟩ (_)).set (a := ⟨g, t * 7 + 5, none⟩) ⟨Nat.le_refl g, hgh⟩ (_)).trans (k6.mono (fun b e => by have e : b = r t := e; exact ⟨by omega, by omega⟩))
      clear hM2 hk2 hc0 hf0 hc1 hf1 hc2 hf2 hc3 hf3 hc4 hf4 hc5 hf5 hc6 o6 k6 w2
      go_wp2
      go_roundw
      case rel => exact ⟨t + 1, k + 6 + 5 * (S t).rwn, by omega, by go_num, by go_num, by omega, hM6, hk6⟩
      case measure => simp [intOf]; omega
    · obtain rfl : t = N := by omega
      go_wp2
      go_ret
      exact ⟨⟨k, by omega, rfl⟩, hk.mono (fun b e => by have e : g ≤ b ∧ b < hi := e; exact ⟨by omega, by omega⟩)⟩

end Go.Proofs.Ytogbaoggebghdaa
