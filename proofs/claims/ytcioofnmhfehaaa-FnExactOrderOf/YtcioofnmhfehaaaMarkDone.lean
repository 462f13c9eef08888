/-
  OWN TEXT: the contract of the laws' helper markDoneS: only its frame, and that its number is not below zero.
-/
import Derived.Test.YtcioofnmhfehaaaKitDone
import Derived.Test.YtcioofnmhfehaaaMarkIr
import Derived.Test.YtcioofnmhfehaaaMarkMRm
namespace Go.Proofs.Ytcioofnmhfehaaa
open Go.RowKit

def MRowRow (w : World) (base b n : Nat) : Prop := OwnAny w base 72 5 b n (fun xs => ∃ S, xs = rowList S n)
theorem markRow_row {w : World} {base b n : Nat} {k : Int} (hn : n ≤ 1048576) (h0 : 0 ≤ k) (h1 : k ≤ 100000000000000) (h : MRowRow w base b n) :
    Calls Try.prog 23 #[.slice (some ⟨b, 0, none⟩) n n, .int .i64 k] w fun e w' => e = .returned (.int .i64 (k + 5 * n)) ∧ MRowRow w' base b n ∧ Kept w w' (fun x => x = b) := by
  obtain ⟨_, ⟨S, rfl⟩, ho⟩ := h
  obtain ⟨q, rfl⟩ := Int.eq_ofNat_of_zero_le h0
  exact (markRowS_own _ n n base q S w (by omega) (by omega) ho).mono fun _ _ ⟨a, b, c⟩ => ⟨by rw [a]; simp, ⟨_, ⟨_, rfl⟩, b⟩, c.mono (fun x hx => by simp only [Value.ownBlock, Option.some.injEq] at hx; exact hx.symm)⟩

/-- A row of N that are done in the block g, whose legs and rows lie in blocks behind g. -/
structure DMark (w : World) (base g N : Nat) (n l m r : Nat → Nat) : Prop where
  ord : ∀ i, i < N → g < l i ∧ g < r i
  row : ∃ f, w.ownsRow base 57 17 (.slice (some ⟨g, 0, none⟩) N N) N ((List.range (N * 17)).map f) ∧ ∀ i, i < N → f (i * 17 + 4) = whole (l i) (n i) ∧ f (i * 17 + 16) = whole (r i) (m i)
  legs : ∀ i, i < N → IntRow w base (l i) (n i)
  rows : ∀ i, i < N → MRowRow w base (r i) (m i)

section
variable {w w' : World} {base g N : Nat} {n l m r : Nat → Nat}
theorem DMark.cell (h : DMark w base g N n l m r) (j : Nat) (hj : j < N * 17) : ∃ v, w.cell? ⟨g, j, none⟩ = some v := by
  obtain ⟨f, hf, _⟩ := h.row
  exact ⟨_, own_cell hf j hj rfl⟩
theorem DMark.ice (h : DMark w base g N n l m r) (j : Nat) : w.frozen? ⟨g, j, none⟩ = false := by
  obtain ⟨f, hf, _⟩ := h.row
  exact hf.frozenAt j
theorem DMark.leg (h : DMark w base g N n l m r) {t : Nat} (ht : t < N) : w.cell? ⟨g, t * 17 + 4, none⟩ = some (.slice (some ⟨l t, 0, none⟩) (n t) (n t)) := by
  obtain ⟨f, hf, h5⟩ := h.row
  rw [own_cell hf (t * 17 + 4) (by omega) rfl, (h5 t ht).1]; rfl
theorem DMark.rw_ (h : DMark w base g N n l m r) {t : Nat} (ht : t < N) : w.cell? ⟨g, t * 17 + 16, none⟩ = some (.slice (some ⟨r t, 0, none⟩) (m t) (m t)) := by
  obtain ⟨f, hf, h5⟩ := h.row
  rw [own_cell hf (t * 17 + 16) (by omega) rfl, (h5 t ht).2]; rfl
theorem DMark.below (h : DMark w base g N n l m r) (hb : Below w.heap.size w w') : DMark w' base g N n l m r := by
  refine ⟨h.ord, ?_, fun i hi => ?_, fun i hi => ?_⟩
  · obtain ⟨f, hf, h5⟩ := h.row; exact ⟨f, own_below hb hf, h5⟩
  · exact (h.legs i hi).kept (Kept.of_below (S := fun _ => False) hb) (fun h => h)
  · exact (h.rows i hi).kept (Kept.of_below (S := fun _ => False) hb) (fun h => h)
theorem DMark.put (h : DMark w base g N n l m r) (j : Nat) (h5 : j % 17 ≠ 4 ∧ j % 17 ≠ 16) (u : Value) : DMark (w.setCell ⟨g, j, none⟩ u) base g N n l m r := by
  have hk : Kept w (w.setCell ⟨g, j, none⟩ u) (fun b => b = g) := (Kept.refl w (fun b => b = g)).set (a := ⟨g, j, none⟩) rfl u
  refine ⟨h.ord, ?_, fun i hi => ?_, fun i hi => ?_⟩
  · obtain ⟨f, hf, hx⟩ := h.row
    refine ⟨_, own_store hf j u, fun i hi => ?_⟩
    rw [if_neg (by omega), if_neg (by omega)]
    exact hx i hi
  · exact (h.legs i hi).kept hk (fun e => by have := (h.ord i hi).1; omega)
  · exact (h.rows i hi).kept hk (fun e => by have := (h.ord i hi).2; omega)
theorem DMark.mark (h : DMark w base g N n l m r) {t : Nat} (ht : t < N) (hk : Kept w w' (fun b => b = l t)) (ho : IntRow w' base (l t) (n t)) : DMark w' base g N n l m r := by
  refine ⟨h.ord, ?_, fun i hi => ?_, fun i hi => ?_⟩
  · obtain ⟨f, hf, hx⟩ := h.row
    exact ⟨f, hk.own hf (fun b hb e => by simp only [Value.ownBlock, Option.some.injEq] at hb; have := (h.ord t ht).1; omega), hx⟩
  · exact (h.legs i hi).after (h.legs t ht) hk (by omega) (fun _ => rfl) (fun _ e => by rw [e]; exact ho)
  · exact (h.rows i hi).after (h.legs t ht) hk (by omega) (fun e => absurd e (by decide)) (fun e => absurd e (by decide))
theorem DMark.markr (h : DMark w base g N n l m r) {t : Nat} (ht : t < N) (hk : Kept w w' (fun b => b = r t)) (ho : MRowRow w' base (r t) (m t)) : DMark w' base g N n l m r := by
  refine ⟨h.ord, ?_, fun i hi => ?_, fun i hi => ?_⟩
  · obtain ⟨f, hf, hx⟩ := h.row
    exact ⟨f, hk.own hf (fun b hb e => by simp only [Value.ownBlock, Option.some.injEq] at hb; have := (h.ord t ht).2; omega), hx⟩
  · exact (h.legs i hi).after (h.rows t ht) hk (by omega) (fun e => absurd e (by decide)) (fun e => absurd e (by decide))
  · exact (h.rows i hi).after (h.rows t ht) hk (by omega) (fun _ => rfl) (fun _ e => by rw [e]; exact ho)
end

set_option maxHeartbeats 6400000 in
set_option maxRecDepth 100000 in
theorem markDoneS_own (g N lo hi k0 : Nat) (S : Nat → DoneD) (C : Nat → List Value) (w : World) (hN : N ≤ 1048576) (hk0 : k0 ≤ 30000000000000) (hs : DoneDsShort N S 1048576) (ho : DoneDsTo w N lo hi g N S C) :
    Calls Try.prog 11 #[.slice (some ⟨g, 0, none⟩) N N, .int .i64 k0] w fun e w' => (∃ k : Nat, e = .returned (.int .i64 k)) ∧ Kept w w' (fun b => lo ≤ b ∧ b < hi) := by
  have key : ∀ i, i < N → ∃ q : Nat × Nat, ((g < q.1 ∧ q.1 < hi) ∧ g < q.2 ∧ q.2 < hi) ∧ ((C i).getD 4 (.bool false) = whole q.1 (S i).lgn ∧ (C i).getD 16 (.bool false) = whole q.2 (S i).rwn) ∧ IntRow w lo q.1 (S i).lgn ∧ MRowRow w lo q.2 (S i).rwn := by
    intro i hi'
    obtain ⟨a, b, e, ha, hb⟩ := ho.each i hi'
    have sh := hs i hi'
    have gl := ho.glo
    unfold DoneD.Short at sh
    have sr := sh.2.2.1
    exact ⟨(a, b), ⟨⟨Nat.lt_of_succ_le ha.1, ha.2.1⟩, Nat.lt_of_succ_le hb.1, hb.2.1⟩, ⟨by rw [e]; rfl, by rw [e]; rfl⟩, ⟨_, ⟨_, rfl⟩, by have := own_of_row (size := 1) (n := (S i).lgn) (by rw [Nat.mul_one]; exact ha.2.2) (Nat.le_trans (Nat.le_succ_of_le gl) ha.1) (by unfold maxLen; omega); rw [Nat.mul_one] at this; exact this⟩,
      ⟨_, ⟨_, rfl⟩, own_of_row (size := 5) (n := (S i).rwn) hb.2.2 (Nat.le_trans (Nat.le_succ_of_le gl) hb.1) (by unfold maxLen; omega)⟩⟩
  obtain ⟨lr, hp⟩ := Go.Deep.choose_lt key
  obtain ⟨l, hl⟩ : ∃ l : Nat → Nat, l = fun i => (lr i).1 := ⟨_, rfl⟩
  obtain ⟨r, hr⟩ : ∃ r : Nat → Nat, r = fun i => (lr i).2 := ⟨_, rfl⟩
  have hM0 : DMark w lo g N (fun i => (S i).lgn) l (fun i => (S i).rwn) r := by
    subst hl hr
    refine ⟨fun i hi' => ⟨(hp i hi').1.1.1, (hp i hi').1.2.1⟩, ⟨_, own_of_row ho.row ho.glo (by unfold maxLen; omega), fun i hi' => ⟨?_, ?_⟩⟩, fun i hi' => (hp i hi').2.2.1, fun i hi' => (hp i hi').2.2.2⟩
    · rw [recCell_at 17 _ i 4 (by omega), upto_lt _ _ hi', (hp i hi').2.1.1]
    · rw [recCell_at 17 _ i 16 (by omega), upto_lt _ _ hi', (hp i hi').2.1.2]
  have HP : Hid (∀ i, i < N → ((S i).lgn ≤ 1048576 ∧ g < l i ∧ l i < hi) ∧ (S i).rwn ≤ 1048576 ∧ g < r i ∧ r i < hi) := by
    subst hl hr
    exact fun i hi' => ⟨⟨(hs i hi').2.1, (hp i hi').1.1⟩, (hs i hi').2.2.1, (hp i hi').1.2⟩
  have hgl := ho.glo
  have hgh := ho.ghi
  clear hs ho key hp hl hr
  go_enter Try.func11, Try.ntmps11
  go_wp2
  go_loopw [1, 5] (fun q i wr => ∃ t k : Nat, t ≤ N ∧ i = .int .i64 t ∧ q = .int .i64 k ∧ k ≤ 30000000000000 + t * 6291500 ∧ DMark wr lo g N (fun i => (S i).lgn) l (fun i => (S i).rwn) r ∧ Kept w wr (fun b => g ≤ b ∧ b < hi)) (fun _ i _ => N - (intOf i).toNat)
  case atStart => exact ⟨0, k0, Nat.zero_le _, rfl, rfl, by omega, hM0, Kept.refl _ _⟩
  case round =>
    obtain ⟨t, k, ht, rfl, rfl, hkk, hM, hk⟩ := hrel
    by_cases hlt : t < N
    · obtain ⟨⟨n1, b1, b2⟩, n2, b3, b4⟩ := HP.out t hlt
      obtain ⟨v0, hc0⟩ := hM.cell (t * 17) (by omega)
      have hf0 := hM.ice (t * 17)
      obtain ⟨v1, hc1⟩ := hM.cell (t * 17 + 1) (by omega)
      have hf1 := hM.ice (t * 17 + 1)
      go_wp2_with fail
      refine (markText_int _ _ (by omega) (by omega)).mono ?_
      rintro e w2 ⟨⟨s, rfl⟩, hb2⟩
      have hM2 := ((hM.put (t * 17) (by omega) (.int .i64 k)).put (t * 17 + 1) (by omega) (.int .i64 (k + 1))).below hb2
      have hk2 := ((hk.set (a := ⟨g, t * 17, none⟩) ⟨Nat.le_refl g, hgh⟩ (.int .i64 k)).set (a := ⟨g, t * 17 + 1, none⟩) ⟨Nat.le_refl g, hgh⟩ (.int .i64 (k + 1))).trans (Kept.of_below hb2)
      clear hM hk hc0 hf0 hc1 hf1 hb2
      obtain ⟨v2, hc2⟩ := hM2.cell (t * 17 + 2) (by omega)
      have hf2 := hM2.ice (t * 17 + 2)
      obtain ⟨v3, hc3⟩ := hM2.cell (t * 17 + 3) (by omega)
      have hf3 := hM2.ice (t * 17 + 3)
      have hc4 := hM2.leg hlt
      go_wp2_with fail
      refine (markInt_row n1 (by omega) (by omega) (((hM2.put (t * 17 + 2) (by omega) (_)).put (t * 17 + 3) (by omega) (_)).legs t hlt)).mono ?_
      rintro e w4 ⟨rfl, o4, k4⟩
      have hM4 := ((hM2.put (t * 17 + 2) (by omega) (_)).put (t * 17 + 3) (by omega) (_)).mark hlt k4 o4
      have hk4 := ((hk2.set (a := ⟨g, t * 17 + 2, none⟩) ⟨Nat.le_refl g, hgh⟩ (_)).set (a := ⟨g, t * 17 + 3, none⟩) ⟨Nat.le_refl g, hgh⟩ (_)).trans (k4.mono (fun b e => by have e : b = l t := e; exact ⟨by omega, by omega⟩))
      clear hM2 hk2 hc2 hf2 hc3 hf3 hc4 o4 k4 w2
      obtain ⟨v5, hc5⟩ := hM4.cell (t * 17 + 5) (by omega)
      have hf5 := hM4.ice (t * 17 + 5)
      obtain ⟨v6, hc6⟩ := hM4.cell (t * 17 + 6) (by omega)
      have hf6 := hM4.ice (t * 17 + 6)
      obtain ⟨v7, hc7⟩ := hM4.cell (t * 17 + 7) (by omega)
      have hf7 := hM4.ice (t * 17 + 7)
      obtain ⟨v8, hc8⟩ := hM4.cell (t * 17 + 8) (by omega)
      have hf8 := hM4.ice (t * 17 + 8)
      obtain ⟨v9, hc9⟩ := hM4.cell (t * 17 + 9) (by omega)
      have hf9 := hM4.ice (t * 17 + 9)
      obtain ⟨v10, hc10⟩ := hM4.cell (t * 17 + 10) (by omega)
      have hf10 := hM4.ice (t * 17 + 10)
      obtain ⟨v11, hc11⟩ := hM4.cell (t * 17 + 11) (by omega)
      have hf11 := hM4.ice (t * 17 + 11)
      obtain ⟨v12, hc12⟩ := hM4.cell (t * 17 + 12) (by omega)
      have hf12 := hM4.ice (t * 17 + 12)
      obtain ⟨v13, hc13⟩ := hM4.cell (t * 17 + 13) (by omega)
      have hf13 := hM4.ice (t * 17 + 13)
      obtain ⟨v14, hc14⟩ := hM4.cell (t * 17 + 14) (by omega)
      have hf14 := hM4.ice (t * 17 + 14)
      obtain ⟨v15, hc15⟩ := hM4.cell (t * 17 + 15) (by omega)
      have hf15 := hM4.ice (t * 17 + 15)
      have hc16 := hM4.rw_ hlt
      go_wp2_with fail
      refine (markRow_row n2 (by omega) (by omega) ((((((((((((hM4.put (t * 17 + 5) (by omega) (_)).put (t * 17 + 6) (by omega) (_)).put (t * 17 + 7) (by omega) (_)).put (t * 17 + 8) (by omega) (_)).put (t * 17 + 9) (by omega) (_)).put (t * 17 + 10) (by omega) (_)).put (t * 17 + 11) (by omega) (_)).put (t * 17 + 12) (by omega) (_)).put (t * 17 + 13) (by omega) (_)).put (t * 17 + 14) (by omega) (_)).put (t * 17 + 15) (by omega) (_)).rows t hlt)).mono ?_
      rintro e w6 ⟨rfl, o6, k6⟩
      have hM6 := (((((((((((hM4.put (t * 17 + 5) (by omega) (_)).put (t * 17 + 6) (by omega) (_)).put (t * 17 + 7) (by omega) (_)).put (t * 17 + 8) (by omega) (_)).put (t * 17 + 9) (by omega) (_)).put (t * 17 + 10) (by omega) (_)).put (t * 17 + 11) (by omega) (_)).put (t * 17 + 12) (by omega) (_)).put (t * 17 + 13) (by omega) (_)).put (t * 17 + 14) (by omega) (_)).put (t * 17 + 15) (by omega) (_)).markr hlt k6 o6
      have hk6 := (((((((((((hk4.set (a := ⟨g, t * 17 + 5, none⟩) ⟨Nat.le_refl g, hgh⟩ (_)).set (a := ⟨g, t * 17 + 6, none⟩) ⟨Nat.le_refl g, hgh⟩ (_)).set (a := ⟨g, t * 17 + 7, none⟩) ⟨Nat.le_refl g, hgh⟩ (_)).set (a := ⟨g, t * 17 + 8, none⟩) ⟨Nat.le_refl g, hgh⟩ (_)).set (a := ⟨g, t * 17 + 9, none⟩) ⟨Nat.le_refl g, hgh⟩ (_)).set (a := ⟨g, t * 17 + 10, none⟩) ⟨Nat.le_refl g, hgh⟩ (_)).set (a := ⟨g, t * 17 + 11, none⟩) ⟨Nat.le_refl g, hgh⟩ (_)).set (a := ⟨g, t * 17 + 12, none⟩) ⟨Nat.le_refl g, hgh⟩ (_)).set (a := ⟨g, t * 17 + 13, none⟩) ⟨Nat.le_refl g, hgh⟩ (_)).set (a := ⟨g, t * 17 + 14, none⟩) ⟨Nat.le_refl g, hgh⟩ (_)).set (a := ⟨g, t * 17 + 15, none⟩) ⟨Nat.le_refl g, hgh⟩ (_)).trans (k6.mono (fun b e => by have e : b = r t := e; exact ⟨by omega, by omega⟩))
      clear hM4 hk4 hc5 hf5 hc6 hf6 hc7 hf7 hc8 hf8 hc9 hf9 hc10 hf10 hc11 hf11 hc12 hf12 hc13 hf13 hc14 hf14 hc15 hf15 hc16 o6 k6 w4
      go_wp2
      go_roundw
      case rel => exact ⟨t + 1, k + 15 + (S t).lgn + 5 * (S t).rwn, by omega, by go_num, by go_num, by omega, hM6, hk6⟩
      case measure => simp [intOf]; omega
    · obtain rfl : t = N := by omega
      go_wp2
      go_ret
      exact ⟨⟨k, rfl⟩, hk.mono (fun b e => by have e : g ≤ b ∧ b < hi := e; exact ⟨by omega, by omega⟩)⟩

end Go.Proofs.Ytcioofnmhfehaaa
