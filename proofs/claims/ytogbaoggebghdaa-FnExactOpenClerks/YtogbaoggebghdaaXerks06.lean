/-
  OWN TEXT: OwnAny, MarkClerk.
-/
import Derived.Deep.Slices
import Derived.Test.YtogbaoggebghdaaB00
import Derived.Test.YtogbaoggebghdaaB05
import Derived.Test.YtogbaoggebghdaaXerks01
namespace Go.Proofs.Ytogbaoggebghdaa
open Go.RowKit

/-- The block b, from base on, is a row of n elements, of a form. -/
def OwnAny (w : World) (base t sz b n : Nat) (Q : List Value → Prop) : Prop := ∃ xs, Q xs ∧ w.ownsRow base t sz (.slice (some ⟨b, 0, none⟩) n n) n xs
theorem own_block {w : World} {base t sz b n : Nat} {xs : List Value} (h : w.ownsRow base t sz (.slice (some ⟨b, 0, none⟩) n n) n xs) : ∃ cur, w.heap[b]? = some (.cells cur t (0, 0)) ∧ cur.size = n * sz := by
  rcases h.2 with ⟨h0, _⟩ | ⟨g, cap, cur, hv, _, hg, _, _, hs, _⟩
  · cases h0
  · simp only [Value.slice.injEq, Option.some.injEq, Addr.mk.injEq] at hv
    obtain ⟨⟨rfl, _, _⟩, _, rfl⟩ := hv
    exact ⟨cur, hg, hs⟩
theorem OwnAny.lt {w : World} {base t sz b n : Nat} {Q : List Value → Prop} (h : OwnAny w base t sz b n Q) : b < w.heap.size := by
  obtain ⟨xs, _, ho⟩ := h
  obtain ⟨cur, hg, _⟩ := own_block ho
  exact blk_lt hg
/-- Another row, or itself, is marked. -/
theorem OwnAny.after {w w' : World} {base t sz b n t' sz' g n' : Nat} {Q Q' : List Value → Prop} (h : OwnAny w base t sz b n Q) (hg : OwnAny w base t' sz' g n' Q') (hk : Kept w w' (fun x => x = g)) (hz : 0 < sz) (he : t = t' → sz = sz') (hs : t = t' → n = n' → OwnAny w' base t sz g n Q) : OwnAny w' base t sz b n Q := by
  by_cases e : b = g
  · subst e
    obtain ⟨xs, hq, ho⟩ := h
    obtain ⟨ys, hq', ho'⟩ := hg
    obtain ⟨c1, g1, s1⟩ := own_block ho
    obtain ⟨c2, g2, s2⟩ := own_block ho'
    rw [g1] at g2
    simp only [Option.some.injEq, Obj.cells.injEq] at g2
    obtain ⟨rfl, rfl, _⟩ := g2
    obtain rfl := he rfl
    exact hs rfl (Nat.eq_of_mul_eq_mul_right hz (s1.symm.trans s2))
  · obtain ⟨xs, hq, ho⟩ := h
    exact ⟨xs, hq, hk.own ho (fun b' hb' e' => by simp only [Value.ownBlock, Option.some.injEq] at hb'; omega)⟩
theorem OwnAny.kept {w w' : World} {base t sz b n : Nat} {Q : List Value → Prop} {T : Nat → Prop} (h : OwnAny w base t sz b n Q) (hk : Kept w w' T) (hT : ¬ T b) : OwnAny w' base t sz b n Q := by
  obtain ⟨xs, hq, ho⟩ := h
  exact ⟨xs, hq, hk.own ho (fun b' hb' e' => by simp only [Value.ownBlock, Option.some.injEq] at hb'; subst hb'; exact hT e')⟩

end Go.Proofs.Ytogbaoggebghdaa

namespace Go.Proofs.Ytogbaoggebghdaa
open Go.RowKit

def MRowRow (w : World) (base b n : Nat) : Prop := OwnAny w base 84 5 b n (fun xs => ∃ S, xs = rowList S n)
theorem markRow_row {w : World} {base b n : Nat} {k : Int} (hn : n ≤ 1048576) (h0 : 0 ≤ k) (h1 : k ≤ 100000000000000) (h : MRowRow w base b n) :
    Calls Try.prog 58 #[.slice (some ⟨b, 0, none⟩) n n, .int .i64 k] w fun e w' => e = .returned (.int .i64 (k + 5 * n)) ∧ MRowRow w' base b n ∧ Kept w w' (fun x => x = b) := by
  obtain ⟨_, ⟨S, rfl⟩, ho⟩ := h
  obtain ⟨q, rfl⟩ := Int.eq_ofNat_of_zero_le h0
  exact (markRowS_own _ n n base q S w (by omega) (by omega) ho).mono fun _ _ ⟨a, b, c⟩ => ⟨by rw [a]; simp, ⟨_, ⟨_, rfl⟩, b⟩, c.mono (fun x hx => by simp only [Value.ownBlock, Option.some.injEq] at hx; exact hx.symm)⟩

/-- A row of N clerks in the block g, whose rows lie in blocks behind g. -/
structure CMark (w : World) (base g N : Nat) (m r : Nat → Nat) : Prop where
  ord : ∀ i, i < N → g < r i
  row : ∃ f, w.ownsRow base 68 7 (.slice (some ⟨g, 0, none⟩) N N) N ((List.range (N * 7)).map f) ∧ ∀ i, i < N → f (i * 7 + 6) = whole (r i) (m i)
  rows : ∀ i, i < N → MRowRow w base (r i) (m i)

section
variable {w w' : World} {base g N : Nat} {m r : Nat → Nat}
theorem CMark.cell (h : CMark w base g N m r) (j : Nat) (hj : j < N * 7) : ∃ v, w.cell? ⟨g, j, none⟩ = some v := by
  obtain ⟨f, hf, _⟩ := h.row
  exact ⟨_, own_cell hf j hj rfl⟩
theorem CMark.ice (h : CMark w base g N m r) (j : Nat) : w.frozen? ⟨g, j, none⟩ = false := by
  obtain ⟨f, hf, _⟩ := h.row
  exact hf.frozenAt j
theorem CMark.rw_ (h : CMark w base g N m r) {t : Nat} (ht : t < N) : w.cell? ⟨g, t * 7 + 6, none⟩ = some (.slice (some ⟨r t, 0, none⟩) (m t) (m t)) := by
  obtain ⟨f, hf, h5⟩ := h.row
  rw [own_cell hf (t * 7 + 6) (by omega) rfl, h5 t ht]; rfl
theorem CMark.below (h : CMark w base g N m r) (hb : Below w.heap.size w w') : CMark w' base g N m r := by
  refine ⟨h.ord, ?_, fun i hi => ?_⟩
  · obtain ⟨f, hf, h5⟩ := h.row; exact ⟨f, own_below hb hf, h5⟩
  · exact (h.rows i hi).kept (Kept.of_below (S := fun _ => False) hb) (fun h => h)
theorem CMark.put (h : CMark w base g N m r) (j : Nat) (h5 : j % 7 ≠ 6) (u : Value) : CMark (w.setCell ⟨g, j, none⟩ u) base g N m r := by
  have hk : Kept w (w.setCell ⟨g, j, none⟩ u) (fun b => b = g) := (Kept.refl w (fun b => b = g)).set (a := ⟨g, j, none⟩) rfl u
  refine ⟨h.ord, ?_, fun i hi => ?_⟩
  · obtain ⟨f, hf, hx⟩ := h.row
    refine ⟨_, own_store hf j u, fun i hi => ?_⟩
    rw [if_neg (by omega)]
    exact hx i hi
  · exact (h.rows i hi).kept hk (fun e => by have := h.ord i hi; omega)
theorem CMark.markr (h : CMark w base g N m r) {t : Nat} (ht : t < N) (hk : Kept w w' (fun b => b = r t)) (ho : MRowRow w' base (r t) (m t)) : CMark w' base g N m r := by
  refine ⟨h.ord, ?_, fun i hi => ?_⟩
  · obtain ⟨f, hf, hx⟩ := h.row
    exact ⟨f, hk.own hf (fun b hb e => by simp only [Value.ownBlock, Option.some.injEq] at hb; have := h.ord t ht; omega), hx⟩
  · exact (h.rows i hi).after (h.rows t ht) hk (by omega) (fun _ => rfl) (fun _ e => by rw [e]; exact ho)
end

set_option maxHeartbeats 6400000 in
set_option maxRecDepth 100000 in
theorem markClerkS_own (g N lo hi k0 : Nat) (S : Nat → ClkD) (C : Nat → List Value) (w : World) (hN : N ≤ 1048576) (hk0 : k0 ≤ 30000000000000) (hs : ClkDsShort N S 1048576) (ho : ClkDsTo w N lo hi g N S C) :
    Calls Try.prog 20 #[.slice (some ⟨g, 0, none⟩) N N, .int .i64 k0] w fun e w' => (∃ k : Nat, k ≤ k0 + 10000000000000 ∧ e = .returned (.int .i64 k)) ∧ Kept w w' (fun b => lo ≤ b ∧ b < hi) := by
  have key : ∀ i, i < N → ∃ q : Nat, (g < q ∧ q < hi) ∧ (C i).getD 6 (.bool false) = whole q (S i).rwn ∧ MRowRow w lo q (S i).rwn := by
    intro i hi'
    obtain ⟨b, e, hb⟩ := ho.each i hi'
    have sh := hs i hi'
    have gl := ho.glo
    unfold ClkD.Short at sh
    have sr := sh.2.1
    exact ⟨b, ⟨Nat.lt_of_succ_le hb.1, hb.2.1⟩, by rw [e]; rfl, ⟨_, ⟨_, rfl⟩, own_of_row (size := 5) (n := (S i).rwn) hb.2.2 (Nat.le_trans (Nat.le_succ_of_le gl) hb.1) (by unfold maxLen; omega)⟩⟩
  obtain ⟨r, hp⟩ := Go.Deep.choose_lt key
  have hM0 : CMark w lo g N (fun i => (S i).rwn) r := by
    refine ⟨fun i hi' => (hp i hi').1.1, ⟨_, own_of_row ho.row ho.glo (by unfold maxLen; omega), fun i hi' => ?_⟩, fun i hi' => (hp i hi').2.2⟩
    rw [recCell_at 7 _ i 6 (by omega), upto_lt _ _ hi', (hp i hi').2.1]
  have HP : Hid (∀ i, i < N → (S i).rwn ≤ 1048576 ∧ g < r i ∧ r i < hi) := fun i hi' => ⟨(hs i hi').2.1, (hp i hi').1⟩
  have hgl := ho.glo
  have hgh := ho.ghi
  clear hs ho key hp
  go_enter Try.func20, Try.ntmps20
  go_wp2
  go_loopw [1, 5] (fun q i wr => ∃ t k : Nat, t ≤ N ∧ i = .int .i64 t ∧ q = .int .i64 k ∧ k ≤ k0 + t * 5242900 ∧ CMark wr lo g N (fun i => (S i).rwn) r ∧ Kept w wr (fun b => g ≤ b ∧ b < hi)) (fun _ i _ => N - (intOf i).toNat)
  case atStart => exact ⟨0, k0, Nat.zero_le _, rfl, rfl, by omega, hM0, Kept.refl _ _⟩
  case round =>
    obtain ⟨t, k, ht, rfl, rfl, hkk, hM, hk⟩ := hrel
    by_cases hlt : t < N
    · obtain ⟨n2, b3, b4⟩ := HP.out t hlt
      go_wp2_with fail
      refine (markText_int _ _ (by omega) (by omega)).mono ?_
      rintro e w2 ⟨⟨s, rfl⟩, hb2⟩
      have hM2 := hM.below hb2
      have hk2 := hk.trans (Kept.of_below hb2)
      clear hM hk hb2
      obtain ⟨v0, hc0⟩ := hM2.cell (t * 7) (by omega)
      have hf0 := hM2.ice (t * 7)
      obtain ⟨v1, hc1⟩ := hM2.cell (t * 7 + 1) (by omega)
      have hf1 := hM2.ice (t * 7 + 1)
      obtain ⟨v2, hc2⟩ := hM2.cell (t * 7 + 2) (by omega)
      have hf2 := hM2.ice (t * 7 + 2)
      obtain ⟨v3, hc3⟩ := hM2.cell (t * 7 + 3) (by omega)
      have hf3 := hM2.ice (t * 7 + 3)
      obtain ⟨v4, hc4⟩ := hM2.cell (t * 7 + 4) (by omega)
      have hf4 := hM2.ice (t * 7 + 4)
      obtain ⟨v5, hc5⟩ := hM2.cell (t * 7 + 5) (by omega)
      have hf5 := hM2.ice (t * 7 + 5)
      have hc6 := hM2.rw_ hlt
      go_wp2_with fail
      refine (markRow_row n2 (by omega) (by omega) (((((((hM2.put (t * 7) (by omega) (_)).put (t * 7 + 1) (by omega) (_)).put (t * 7 + 2) (by omega) (_)).put (t * 7 + 3) (by omega) (_)).put (t * 7 + 4) (by omega) (_)).put (t * 7 + 5) (by omega) (_)).rows t hlt)).mono ?_
      rintro e w6 ⟨rfl, o6, k6⟩
      have hM6 := ((((((hM2.put (t * 7) (by omega) (_)).put (t * 7 + 1) (by omega) (_)).put (t * 7 + 2) (by omega) (_)).put (t * 7 + 3) (by omega) (_)).put (t * 7 + 4) (by omega) (_)).put (t * 7 + 5) (by omega) (_)).markr hlt k6 o6
      have hk6 := ((((((hk2.set (a := ⟨g, t * 7, none⟩) ⟨Nat.le_refl g, hgh⟩ (_)).set (a := ⟨g, t * 7 + 1, none⟩) ⟨Nat.le_refl g, hgh⟩ (_)).set (a := ⟨g, t * 7 + 2, none⟩) ⟨Nat.le_refl g, hgh⟩ (_)).set (a := ⟨g, t * 7 + 3, none⟩) ⟨Nat.le_refl g, hgh⟩ (_)).set (a := ⟨g, t * 7 + 4, none⟩) ⟨Nat.le_refl g, hgh⟩ (_)).set (a := ⟨g, t * 7 + 5, none⟩) ⟨Nat.le_refl g, hgh⟩ (_)).trans (k6.mono (fun b e => by have e : b = r t := e; exact ⟨by omega, by omega⟩))
      clear hM2 hk2 hc0 hf0 hc1 hf1 hc2 hf2 hc3 hf3 hc4 hf4 hc5 hf5 hc6 o6 k6 w2
      go_wp2
      go_roundw
      case rel => exact ⟨t + 1, k + 6 + 5 * (S t).rwn, by omega, by go_num, by go_num, by omega, hM6, hk6⟩
      case measure => simp [intOf]; omega
    · obtain rfl : t = N := by omega
      go_wp2
      go_ret
      exact ⟨⟨k, by omega, rfl⟩, hk.mono (fun b e => by have e : g ≤ b ∧ b < hi := e; exact ⟨by omega, by omega⟩)⟩

end Go.Proofs.Ytogbaoggebghdaa
