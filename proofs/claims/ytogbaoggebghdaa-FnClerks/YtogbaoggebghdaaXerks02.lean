/-
  OWN TEXT: MarkMRm, MarkMRow, MarkCkO.
-/
import Derived.Deep.RegionHeld3
import Derived.Deep.DeepCutAuto
import Derived.Test.YtogbaoggebghdaaB02
import Derived.Test.YtogbaoggebghdaaXerks01
import Derived.Test.YtogbaoggebghdaaB19
namespace Go.Proofs.Ytogbaoggebghdaa
open Go.RowKit

theorem markText_isI (z : Int) (w : World) (h0 : 0 ≤ z) (hk : z ≤ 1000000000000000) :
    Calls Try.prog 57 #[.int .i64 z] w fun e w' => e = .returned (.string (markT z.toNat)) ∧ Below w.heap.size w w' := by
  obtain ⟨q, rfl⟩ := Int.eq_ofNat_of_zero_le h0
  exact markText_is q w (by omega)
/-- What a marked row holds. -/
def rowMark (k0 : Nat) (i : Nat) : MRow := ⟨(k0 : Int) + 5 * i, markT (k0 + 5 * i + 1), (k0 : Int) + 5 * i + 2, (k0 : Int) + 5 * i + 3, (k0 : Int) + 5 * i + 4⟩

set_option maxHeartbeats 1600000 in
set_option maxRecDepth 100000 in
theorem markRowS_own (ao : Option Addr) (n c base k0 : Nat) (S : Nat → MRow) (w : World) (hn : n ≤ 2097152) (h1 : k0 ≤ 100000000000000) (ho : w.ownsRow base 84 5 (.slice ao n c) n (rowList S n)) :
    Calls Try.prog 58 #[.slice ao n c, .int .i64 k0] w fun e w' => e = .returned (.int .i64 ((k0 + 5 * n : Nat) : Int)) ∧ w'.ownsRow base 84 5 (.slice ao n c) n (rowList (rowMark k0) n) ∧ Kept w w' (fun b => (Value.slice ao n c).ownBlock = some b) := by
  go_enter Try.func58, Try.ntmps58
  go_wp2
  go_loopw [1, 5] (fun q i wr => ∃ (t k : Nat), t ≤ n ∧ i = .int .i64 t ∧ q = .int .i64 k ∧ k = k0 + 5 * t ∧ wr.ownsRow base 84 5 (.slice ao n c) n ((List.range (n * 5)).map (rowCell (fun i => if i < t then rowMark k0 i else S i))) ∧ Kept w wr (fun b => (Value.slice ao n c).ownBlock = some b)) (fun _ i _ => n - (intOf i).toNat)
  case atStart => exact ⟨0, k0, Nat.zero_le _, rfl, rfl, by omega, by simpa [rowList] using ho, Kept.refl _ _⟩
  case round =>
    obtain ⟨t, k, ht, rfl, rfl, hkk, hown, hk⟩ := hrel
    have HKK : Hid (k = k0 + 5 * t) := hkk
    have kb : k ≤ 200000000000000 := by omega
    clear hkk
    by_cases hlt : t < n
    · obtain ⟨g, rfl, hg1, hg2⟩ := own_addr hown (by omega)
      obtain ⟨v0, hc0⟩ : ∃ v, wr.cell? ⟨g, t * 5, none⟩ = some v := ⟨_, own_cell hown (t * 5) (by omega) rfl⟩
      have hf0 := hown.frozenAt (t * 5)
      go_wp2_with fail
      refine (markText_isI _ _ (by omega) (by omega)).mono ?_
      rintro e w2 ⟨rfl, hb2⟩
      have hown2 := own_below hb2 (own_store hown (t * 5) (.int .i64 k))
      have hk2 := (hk.set (a := ⟨g, t * 5, none⟩) rfl (.int .i64 k)).trans (Kept.of_below hb2)
      clear hc0 hf0 hb2 hown hk
      obtain ⟨v1, hc1⟩ : ∃ v, w2.cell? ⟨g, t * 5 + 1, none⟩ = some v := ⟨_, own_cell hown2 (t * 5 + 1) (by omega) rfl⟩
      have hf1 := hown2.frozenAt (t * 5 + 1)
      obtain ⟨v2, hc2⟩ : ∃ v, w2.cell? ⟨g, t * 5 + 2, none⟩ = some v := ⟨_, own_cell hown2 (t * 5 + 2) (by omega) rfl⟩
      have hf2 := hown2.frozenAt (t * 5 + 2)
      obtain ⟨v3, hc3⟩ : ∃ v, w2.cell? ⟨g, t * 5 + 3, none⟩ = some v := ⟨_, own_cell hown2 (t * 5 + 3) (by omega) rfl⟩
      have hf3 := hown2.frozenAt (t * 5 + 3)
      obtain ⟨v4, hc4⟩ : ∃ v, w2.cell? ⟨g, t * 5 + 4, none⟩ = some v := ⟨_, own_cell hown2 (t * 5 + 4) (by omega) rfl⟩
      have hf4 := hown2.frozenAt (t * 5 + 4)
      have htx : ((k : Int) + 1).toNat = k0 + 5 * t + 1 := by have := HKK.out; omega
      rw [htx]
      clear htx
      go_wp2
      go_roundw
      case rel =>
        refine ⟨t + 1, k + 5, by omega, by go_num, by go_num, by have := HKK.out; omega, own_congr (own_store (own_store (own_store (own_store hown2 (t * 5 + 1) _) (t * 5 + 2) _) (t * 5 + 3) _) (t * 5 + 4) _) (fun j hj => ?_), ((((hk2.set (a := ⟨g, t * 5 + 1, none⟩) rfl _).set (a := ⟨g, t * 5 + 2, none⟩) rfl _).set (a := ⟨g, t * 5 + 3, none⟩) rfl _).set (a := ⟨g, t * 5 + 4, none⟩) rfl _)⟩
        have e0 : (k : Int) = (k0 : Int) + 5 * t := by have := HKK.out; omega
        have key : ∀ (S' : Nat → MRow), (∀ i, i ≠ t → S' i = (if i < t then rowMark k0 i else S i)) → (S' t = rowMark k0 t) → rowCell S' j = rowCell (fun i => if i < t + 1 then rowMark k0 i else S i) j := by
          intro S' h1 h2
          unfold rowCell
          have : S' (j / 5) = (if j / 5 < t + 1 then rowMark k0 (j / 5) else S (j / 5)) := by
            by_cases e : j / 5 = t
            · rw [e, h2, if_pos (by omega)]
            · rw [h1 _ e]
              by_cases e2 : j / 5 < t
              · rw [if_pos e2, if_pos (by omega)]
              · rw [if_neg e2, if_neg (by omega)]
          rw [this]
        rw [← key (fun i => if i = t then rowMark k0 t else if i < t then rowMark k0 i else S i) (fun i h => if_neg h) (if_pos rfl)]
        by_cases h4 : j = t * 5 + 4
        · subst h4; rw [if_pos rfl, rowCell_4, if_pos rfl]; simp [rowMark]; try omega
        rw [if_neg h4]
        by_cases h3 : j = t * 5 + 3
        · subst h3; rw [if_pos rfl, rowCell_3, if_pos rfl]; simp [rowMark]; try omega
        rw [if_neg h3]
        by_cases h2 : j = t * 5 + 2
        · subst h2; rw [if_pos rfl, rowCell_2, if_pos rfl]; simp [rowMark]; try omega
        rw [if_neg h2]
        by_cases h1 : j = t * 5 + 1
        · subst h1; rw [if_pos rfl, rowCell_1, if_pos rfl]; simp [rowMark]; try omega
        rw [if_neg h1]
        by_cases h0 : j = t * 5
        · subst h0; rw [if_pos rfl, rowCell_0, if_pos rfl]; simp [rowMark]; try omega
        rw [if_neg h0]
        have hne : j / 5 ≠ t := by omega
        unfold rowCell
        simp only [if_neg hne]
      case measure => simp [intOf]; omega
    · obtain rfl : t = n := by omega
      go_wp2
      go_ret
      refine ⟨by rw [HKK.out]; rfl, ?_, hk⟩
      rw [rowList_congr (S := rowMark k0) (S' := fun i => if i < t then rowMark k0 i else S i) (fun i hi => (if_pos hi).symm)]
      exact hown

end Go.Proofs.Ytogbaoggebghdaa

namespace Go.Proofs.Ytogbaoggebghdaa
open Go.RowKit

set_option maxHeartbeats 1600000 in
set_option maxRecDepth 100000 in
theorem heldRowS_yes (ao : Option Addr) (n c k0 : Nat) (w : World) (hn : n ≤ 2097152) (h1 : k0 ≤ 100000000000000) (hz : MRowsAt w ao n (rowMark k0)) :
    Calls Try.prog 59 #[.slice ao n c, .int .i64 k0] w fun e w' => e = .returned (.int .i64 ((k0 + 5 * n : Nat) : Int)) ∧ Below w.heap.size w w' := by
  have HZ : Hid (MRowsAt w ao n (rowMark k0)) := hz
  clear hz
  go_enter Try.func59, Try.ntmps59
  go_wp2
  go_loopw [1, 5] (fun q i wr => ∃ (t k : Nat), t ≤ n ∧ i = .int .i64 t ∧ q = .int .i64 k ∧ k = k0 + 5 * t ∧ Below w.heap.size w wr) (fun _ i _ => n - (intOf i).toNat)
  case atStart => exact ⟨0, k0, Nat.zero_le _, rfl, rfl, by omega, Below.refl _ _⟩
  case round =>
    obtain ⟨t, k, ht, rfl, rfl, hkk, hbel⟩ := hrel
    have HKK : Hid (k = k0 + 5 * t) := hkk
    have kb : k ≤ 200000000000000 := by omega
    clear hkk
    by_cases hlt : t < n
    · obtain ⟨b, off, rfl, c0, c1, c2, c3, c4⟩ := HZ.out t hlt
      simp only [rowMark] at c0 c1 c2 c3 c4
      have e0 : (k0 : Int) + 5 * t = (k : Int) := by have := HKK.out; omega
      have e1 : k0 + 5 * t + 1 = ((k : Int) + 1).toNat := by have := HKK.out; omega
      rw [e0] at c0 c2 c3 c4
      rw [e1] at c1
      have hb := World.block_lt_of_cell? w _ c0
      have i1 : (0 : Int) ≤ (t : Int) := by omega
      have i2 : (t : Int) < (n : Int) := by omega
      obtain ⟨s, hsd⟩ : ∃ s, s = markT ((k : Int) + 1).toNat := ⟨_, rfl⟩
      rw [← hsd] at c1
      have HSD : Hid (s = markT ((k : Int) + 1).toNat) := hsd
      have HC : Hid (∀ w', Below w.heap.size w w' → w'.cell? ⟨b, off + t * 5, none⟩ = some (.int .i64 k) ∧ w'.cell? ⟨b, off + t * 5 + 1, none⟩ = some (.string s) ∧ w'.cell? ⟨b, off + t * 5 + 2, none⟩ = some (.int .i64 ((k : Int) + 2)) ∧ w'.cell? ⟨b, off + t * 5 + 3, none⟩ = some (.int .i64 ((k : Int) + 3)) ∧ w'.cell? ⟨b, off + t * 5 + 4, none⟩ = some (.int .i64 ((k : Int) + 4))) := fun w' h =>
        ⟨(h.cell (p := ⟨b, off + t * 5, none⟩) hb).trans c0, (h.cell (p := ⟨b, off + t * 5 + 1, none⟩) hb).trans c1, (h.cell (p := ⟨b, off + t * 5 + 2, none⟩) hb).trans c2, (h.cell (p := ⟨b, off + t * 5 + 3, none⟩) hb).trans c3, (h.cell (p := ⟨b, off + t * 5 + 4, none⟩) hb).trans c4⟩
      clear c0 c1 c2 c3 c4 e0 e1 hsd
      obtain ⟨c0, c1, _, _, _⟩ := HC.out wr hbel
      go_wp2
      clear c0
      go_region_held3 (fun w' => w'.cell? ⟨b, off + t * 5 + 1, none⟩ = some (.string s))
        ((first | exact c1 | exact (HC.out _ (after hbel.drew hb3)).2.1))
        (first | (go_at_call 57; refine (markText_isI _ _ (by omega) (by omega)).mono ?_; rintro e w3 ⟨rfl, hb3⟩; rw [← HSD.out]))
      all_goals
        have hbw := after hbel.drew hb3
        obtain ⟨_, _, c2, c3, c4⟩ := HC.out w3 hbw
        have f2 : (((k : Int) + 2) != (k : Int) + 1 + 1) = false := by simp; omega
        have f3 : (((k : Int) + 3) != (k : Int) + 1 + 1 + 1) = false := by simp; omega
        have f4 : (((k : Int) + 4) != (k : Int) + 1 + 1 + 1 + 1) = false := by simp; omega
        go_wp2
        go_roundw
        case rel => exact ⟨t + 1, k + 5, by omega, by go_num, by go_num, by have := HKK.out; omega, hbw⟩
        case measure => simp [intOf]; omega
    · obtain rfl : t = n := by omega
      go_wp2
      go_ret
      exact ⟨by rw [HKK.out]; rfl, hbel⟩

end Go.Proofs.Ytogbaoggebghdaa

namespace Go.Proofs.Ytogbaoggebghdaa
open Go.RowKit

/-- The number before the clerk at place i. -/
def ckPos (S : Nat → ClkD) (k0 : Nat) : Nat → Nat
  | 0 => k0
  | i + 1 => ckPos S k0 i + 6 + 5 * (S i).rwn
theorem ckPos_succ (S : Nat → ClkD) (k0 i : Nat) : ckPos S k0 (i + 1) = ckPos S k0 i + 6 + 5 * (S i).rwn := rfl
def clkMark (p n : Nat) : ClkD := ⟨markT p, (p : Int) + 1, ((p : Int) + 2) % 3 == 0, (p : Int) + 3, (p : Int) + 4, (p : Int) + 5, n, rowMark (p + 6)⟩
/-- What is marked at place i from the number k0 on. -/
def ckMark (S : Nat → ClkD) (k0 i : Nat) : ClkD := clkMark (ckPos S k0 i) (S i).rwn
theorem ckPos_le (S : Nat → ClkD) (k0 : Nat) (N : Nat) (h : ∀ i, i < N → (S i).rwn ≤ 2097152) : ∀ i, i ≤ N → ckPos S k0 i ≤ k0 + i * 10485766 := by
  intro i
  induction i with
  | zero => intro _; show k0 ≤ _; omega
  | succ i ih =>
    intro hi
    have := ih (by omega)
    have := h i (by omega)
    rw [ckPos_succ]
    omega
theorem markRowS_ownI (ao : Option Addr) (n c base : Nat) (z : Int) (S : Nat → MRow) (w : World) (hn : n ≤ 2097152) (h0 : 0 ≤ z) (h1 : z ≤ 100000000000000) (ho : w.ownsRow base 84 5 (.slice ao n c) n (rowList S n)) :
    Calls Try.prog 58 #[.slice ao n c, .int .i64 z] w fun e w' => e = .returned (.int .i64 (z + 5 * n)) ∧ w'.ownsRow base 84 5 (.slice ao n c) n (rowList (rowMark z.toNat) n) ∧ Kept w w' (fun b => (Value.slice ao n c).ownBlock = some b) := by
  obtain ⟨q, rfl⟩ := Int.eq_ofNat_of_zero_le h0
  exact (markRowS_own ao n c base q S w hn (by omega) ho).mono fun _ _ ⟨a, b, c⟩ => ⟨by rw [a]; simp, b, c⟩
theorem heldRowS_yesI (ao : Option Addr) (n c : Nat) (z : Int) (w : World) (hn : n ≤ 2097152) (h0 : 0 ≤ z) (h1 : z ≤ 100000000000000) (hz : MRowsAt w ao n (rowMark z.toNat)) :
    Calls Try.prog 59 #[.slice ao n c, .int .i64 z] w fun e w' => e = .returned (.int .i64 (z + 5 * n)) ∧ Below w.heap.size w w' := by
  obtain ⟨q, rfl⟩ := Int.eq_ofNat_of_zero_le h0
  exact (heldRowS_yes ao n c q w hn (by omega) hz).mono fun _ _ ⟨a, b⟩ => ⟨by rw [a]; simp, b⟩

section
variable {w w' : World} {base N c g k : Nat} {S : Nat → ClkD} {R : Nat → Value}
theorem OwnClks.put6 (h : OwnClks w base (.slice (some ⟨g, 0, none⟩) N c) N S R) (x : ClkD) (hn : x.rwn = (S k).rwn) (hw : x.rw = (S k).rw) : OwnClks ((((((w.setCell ⟨g, k * 7, none⟩ (.string x.nam)).setCell ⟨g, k * 7 + 1, none⟩ (.int .i64 x.num)).setCell ⟨g, k * 7 + 2, none⟩ (.bool x.opn)).setCell ⟨g, k * 7 + 3, none⟩ (.int .i64 x.code)).setCell ⟨g, k * 7 + 4, none⟩ (.int .i64 x.anam)).setCell ⟨g, k * 7 + 5, none⟩ (.int .i64 x.price)) base (.slice (some ⟨g, 0, none⟩) N c) N (putC S k x) R := by
  have hk : Kept w ((((((w.setCell ⟨g, k * 7, none⟩ (.string x.nam)).setCell ⟨g, k * 7 + 1, none⟩ (.int .i64 x.num)).setCell ⟨g, k * 7 + 2, none⟩ (.bool x.opn)).setCell ⟨g, k * 7 + 3, none⟩ (.int .i64 x.code)).setCell ⟨g, k * 7 + 4, none⟩ (.int .i64 x.anam)).setCell ⟨g, k * 7 + 5, none⟩ (.int .i64 x.price)) (fun x => x = g) := (((((((Kept.refl w (fun x => x = g)).set (a := ⟨g, k * 7, none⟩) rfl _).set (a := ⟨g, k * 7 + 1, none⟩) rfl _).set (a := ⟨g, k * 7 + 2, none⟩) rfl _).set (a := ⟨g, k * 7 + 3, none⟩) rfl _).set (a := ⟨g, k * 7 + 4, none⟩) rfl _).set (a := ⟨g, k * 7 + 5, none⟩) rfl _)
  refine ⟨own_congr (own_store (own_store (own_store (own_store (own_store (own_store h.row (k * 7) (.string x.nam)) (k * 7 + 1) (.int .i64 x.num)) (k * 7 + 2) (.bool x.opn)) (k * 7 + 3) (.int .i64 x.code)) (k * 7 + 4) (.int .i64 x.anam)) (k * 7 + 5) (.int .i64 x.price)) (fun j hj => ?_), fun i hi => ?_, h.apart⟩
  · by_cases h5 : j = k * 7 + 5
    · subst h5; rw [if_pos rfl, clkCell_5, putC_at]
    rw [if_neg h5]
    by_cases h4 : j = k * 7 + 4
    · subst h4; rw [if_pos rfl, clkCell_4, putC_at]
    rw [if_neg h4]
    by_cases h3 : j = k * 7 + 3
    · subst h3; rw [if_pos rfl, clkCell_3, putC_at]
    rw [if_neg h3]
    by_cases h2 : j = k * 7 + 2
    · subst h2; rw [if_pos rfl, clkCell_2, putC_at]
    rw [if_neg h2]
    by_cases h1 : j = k * 7 + 1
    · subst h1; rw [if_pos rfl, clkCell_1, putC_at]
    rw [if_neg h1]
    by_cases h0 : j = k * 7
    · subst h0; rw [if_pos rfl, clkCell_0, putC_at]
    rw [if_neg h0]
    by_cases e : j / 7 = k
    · have hm : j = k * 7 + 6 := by omega
      subst hm
      rw [clkCell_6, clkCell_6]
    · unfold clkCell
      rw [putC_ne _ _ _ e]
  · have e : (putC S k x i).rwn = (S i).rwn ∧ (putC S k x i).rw = (S i).rw := by
      by_cases e : i = k
      · subst e; rw [putC_at]; exact ⟨hn, hw⟩
      · rw [putC_ne _ _ _ e]; exact ⟨rfl, rfl⟩
    rw [e.1, e.2]
    exact hk.own (h.rows i hi) (fun q hq1 hq2 => own_apart h.row (h.rows i hi) (by decide) q (by rw [hq2]; rfl) hq1)
theorem OwnClks.rows6 {v : Value} (h : OwnClks w base v N S R) (hkN : k < N) (x : ClkD) (e1 : x.nam = (S k).nam) (e2 : x.num = (S k).num) (e3 : x.opn = (S k).opn) (e4 : x.code = (S k).code) (e5 : x.anam = (S k).anam) (e6 : x.price = (S k).price)
    (hk : Kept w w' (fun b => (R k).ownBlock = some b)) (ho : w'.ownsRow base 84 5 (R k) x.rwn (rowList x.rw x.rwn)) : OwnClks w' base v N (putC S k x) R := by
  refine ⟨?_, fun i hi => ?_, h.apart⟩
  · refine hk.own (own_congr h.row (fun j hj => ?_)) (fun q hq1 hq2 => own_apart h.row (h.rows k hkN) (by decide) q hq1 hq2)
    by_cases e : j / 7 = k
    · unfold clkCell
      rw [e, putC_at, e1, e2, e3, e4, e5, e6]
    · unfold clkCell
      rw [putC_ne _ _ _ e]
  · by_cases e : i = k
    · subst e; rw [putC_at]; exact ho
    · rw [putC_ne _ _ _ e]
      refine hk.own (h.rows i hi) (fun q hq1 hq2 => ?_)
      rcases Nat.lt_or_ge i k with hlt | hge
      · exact h.apart i k hlt hkN q hq1 hq2
      · exact h.apart k i (by omega) hi q hq2 hq1
end
theorem upto_put (S : Nat → ClkD) (k0 t : Nat) : putC (fun i => if i < t then ckMark S k0 i else S i) t (ckMark S k0 t) = fun i => if i < t + 1 then ckMark S k0 i else S i := by
  funext i
  unfold putC
  by_cases e : i = t
  · subst e; rw [if_pos rfl, if_pos (by omega)]
  · rw [if_neg e]
    by_cases h : i < t
    · simp only [if_pos h]; rw [if_pos (by omega)]
    · simp only [if_neg h]; rw [if_neg (by omega)]

/-- The blocks of own clerks. -/
def ckBlocks (v : Value) (N : Nat) (R : Nat → Value) (b : Nat) : Prop := v.ownBlock = some b ∨ ∃ i, i < N ∧ (R i).ownBlock = some b
set_option maxHeartbeats 6400000 in
set_option maxRecDepth 100000 in
theorem markClerkS_fine (ao : Option Addr) (N c base k0 : Nat) (S : Nat → ClkD) (R : Nat → Value) (w : World) (hN : N ≤ 1048577) (hk0 : k0 ≤ 30000000000000) (hs : ∀ i, i < N → (S i).rwn ≤ 2097152) (ho : OwnClks w base (.slice ao N c) N S R) :
    Calls Try.prog 20 #[.slice ao N c, .int .i64 k0] w fun e w' => e = .returned (.int .i64 ((ckPos S k0 N : Nat) : Int)) ∧ OwnClks w' base (.slice ao N c) N (ckMark S k0) R ∧ Kept w w' (ckBlocks (.slice ao N c) N R) := by
  have HS : Hid (∀ i, i < N → (S i).rwn ≤ 2097152) := hs
  have HP : Hid (∀ i, i ≤ N → ckPos S k0 i ≤ k0 + i * 10485766) := ckPos_le S k0 N hs
  clear hs
  go_enter Try.func20, Try.ntmps20
  go_wp2
  go_loopw [1, 5] (fun q i wr => ∃ t k : Nat, t ≤ N ∧ i = .int .i64 t ∧ q = .int .i64 k ∧ Hid (k = ckPos S k0 t) ∧ OwnClks wr base (.slice ao N c) N (fun i => if i < t then ckMark S k0 i else S i) R ∧ Kept w wr (ckBlocks (.slice ao N c) N R)) (fun _ i _ => N - (intOf i).toNat)
  case atStart => exact ⟨0, k0, Nat.zero_le _, rfl, rfl, rfl, by simpa using ho, Kept.refl _ _⟩
  case round =>
    clear ho
    obtain ⟨t, k, ht, rfl, rfl, HK, hO, hk⟩ := hrel
    have kb : k ≤ 50000000000000 := by have := HK.out; have := HP.out t ht; omega
    by_cases hlt : t < N
    · have n2 := HS.out t hlt
      obtain ⟨g, rfl, hg1, hg2⟩ := own_addr hO.row (by omega)
      go_wp2_with fail
      refine (markText_is k _ (by omega)).mono ?_
      rintro e w2 ⟨rfl, hb2⟩
      have HO2 : Hid (OwnClks w2 base (.slice (some ⟨g, 0, none⟩) N c) N (fun i => if i < t then ckMark S k0 i else S i) R) := hO.below hb2
      have HK2 : Hid (Kept w w2 (ckBlocks (.slice (some ⟨g, 0, none⟩) N c) N R)) := hk.trans (Kept.of_below hb2)
      clear hO hk hb2
      have hc0 := own_cell HO2.out.row (t * 7) (by omega) rfl
      have hf0 := HO2.out.row.frozenAt (t * 7)
      have hc1 := own_cell HO2.out.row (t * 7 + 1) (by omega) rfl
      have hf1 := HO2.out.row.frozenAt (t * 7 + 1)
      have hc2 := own_cell HO2.out.row (t * 7 + 2) (by omega) rfl
      have hf2 := HO2.out.row.frozenAt (t * 7 + 2)
      have hc3 := own_cell HO2.out.row (t * 7 + 3) (by omega) rfl
      have hf3 := HO2.out.row.frozenAt (t * 7 + 3)
      have hc4 := own_cell HO2.out.row (t * 7 + 4) (by omega) rfl
      have hf4 := HO2.out.row.frozenAt (t * 7 + 4)
      have hc5 := own_cell HO2.out.row (t * 7 + 5) (by omega) rfl
      have hf5 := HO2.out.row.frozenAt (t * 7 + 5)
      have hc6 := own_cell HO2.out.row (t * 7 + 6) (by omega) rfl
      have hf6 := HO2.out.row.frozenAt (t * 7 + 6)
      obtain ⟨ra, rc, eR, _⟩ := own_form (HO2.out.rows t hlt)
      simp only [if_neg (Nat.lt_irrefl t)] at eR
      rw [clkCell_6, eR] at hc6
      have HER : Hid (R t = .slice ra (S t).rwn rc) := eR
      clear eR
      have HO3 : Hid (OwnClks ((((((w2.setCell ⟨g, t * 7, none⟩ (.string (markT k))).setCell ⟨g, t * 7 + 1, none⟩ (.int .i64 ((k : Int) + 1))).setCell ⟨g, t * 7 + 2, none⟩ (.bool (((k : Int) + 1 + 1) % 3 == 0))).setCell ⟨g, t * 7 + 3, none⟩ (.int .i64 ((k : Int) + 1 + 1 + 1))).setCell ⟨g, t * 7 + 4, none⟩ (.int .i64 ((k : Int) + 1 + 1 + 1 + 1))).setCell ⟨g, t * 7 + 5, none⟩ (.int .i64 ((k : Int) + 1 + 1 + 1 + 1 + 1))) base (.slice (some ⟨g, 0, none⟩) N c) N (putC (fun i => if i < t then ckMark S k0 i else S i) t (ClkD.mk (markT k) ((k : Int) + 1) (((k : Int) + 2) % 3 == 0) ((k : Int) + 3) ((k : Int) + 4) ((k : Int) + 5) (S t).rwn (S t).rw)) R) := by
        have h := HO2.out.put6 (k := t) (ClkD.mk (markT k) ((k : Int) + 1) (((k : Int) + 2) % 3 == 0) ((k : Int) + 3) ((k : Int) + 4) ((k : Int) + 5) (S t).rwn (S t).rw) (by simp) (by simp)
        rw [show (k : Int) + 1 + 1 = (k : Int) + 2 by omega, show (k : Int) + 2 + 1 = (k : Int) + 3 by omega, show (k : Int) + 3 + 1 = (k : Int) + 4 by omega, show (k : Int) + 4 + 1 = (k : Int) + 5 by omega]
        exact h
      have HK3 : Hid (Kept w2 ((((((w2.setCell ⟨g, t * 7, none⟩ (.string (markT k))).setCell ⟨g, t * 7 + 1, none⟩ (.int .i64 ((k : Int) + 1))).setCell ⟨g, t * 7 + 2, none⟩ (.bool (((k : Int) + 1 + 1) % 3 == 0))).setCell ⟨g, t * 7 + 3, none⟩ (.int .i64 ((k : Int) + 1 + 1 + 1))).setCell ⟨g, t * 7 + 4, none⟩ (.int .i64 ((k : Int) + 1 + 1 + 1 + 1))).setCell ⟨g, t * 7 + 5, none⟩ (.int .i64 ((k : Int) + 1 + 1 + 1 + 1 + 1))) (ckBlocks (.slice (some ⟨g, 0, none⟩) N c) N R)) := ((((((((Kept.refl w2 (fun x => x = g)).set (a := ⟨g, t * 7, none⟩) rfl _).set (a := ⟨g, t * 7 + 1, none⟩) rfl _).set (a := ⟨g, t * 7 + 2, none⟩) rfl _).set (a := ⟨g, t * 7 + 3, none⟩) rfl _).set (a := ⟨g, t * 7 + 4, none⟩) rfl _).set (a := ⟨g, t * 7 + 5, none⟩) rfl _)).mono (fun b e => by have e : b = g := e; rw [e]; exact Or.inl rfl)
      go_wp2_with fail
      generalize ((((((w2.setCell ⟨g, t * 7, none⟩ (.string (markT k))).setCell ⟨g, t * 7 + 1, none⟩ (.int .i64 ((k : Int) + 1))).setCell ⟨g, t * 7 + 2, none⟩ (.bool (((k : Int) + 1 + 1) % 3 == 0))).setCell ⟨g, t * 7 + 3, none⟩ (.int .i64 ((k : Int) + 1 + 1 + 1))).setCell ⟨g, t * 7 + 4, none⟩ (.int .i64 ((k : Int) + 1 + 1 + 1 + 1))).setCell ⟨g, t * 7 + 5, none⟩ (.int .i64 ((k : Int) + 1 + 1 + 1 + 1 + 1))) = W3 at HO3 HK3 ⊢
      have o3 := HO3.out.rows t hlt
      rw [putC_at, HER.out] at o3
      refine (markRowS_ownI ra (S t).rwn rc base _ (S t).rw W3 n2 (by omega) (by omega) o3).mono ?_
      rintro e w6 ⟨rfl, o6, k6⟩
      have hO6 : OwnClks w6 base (.slice (some ⟨g, 0, none⟩) N c) N (fun i => if i < t + 1 then ckMark S k0 i else S i) R := by
        have h := HO3.out.rows6 (k := t) (w' := w6) hlt (clkMark k (S t).rwn) (by rw [putC_at]; rfl) (by rw [putC_at]; rfl) (by rw [putC_at]; rfl) (by rw [putC_at]; rfl) (by rw [putC_at]; rfl) (by rw [putC_at]; rfl) (by rw [HER.out]; exact k6)
          (by rw [HER.out]; have e : ((k : Int) + 1 + 1 + 1 + 1 + 1 + 1).toNat = k + 6 := by omega
              rw [e] at o6; exact o6)
        rw [putC_put, HK.out] at h
        rw [← upto_put]
        exact h
      have hk6 : Kept w w6 (ckBlocks (.slice (some ⟨g, 0, none⟩) N c) N R) := (HK2.out.trans HK3.out).trans (k6.mono (fun b e => Or.inr ⟨t, hlt, by rw [HER.out]; exact e⟩))
      clear hc0 hf0 hc1 hf1 hc2 hf2 hc3 hf3 hc4 hf4 hc5 hf5 hc6 hf6 o6 k6 o3
      go_wp2
      go_roundw
      case rel => exact ⟨t + 1, k + 6 + 5 * (S t).rwn, by omega, by go_num, by go_num, (show k + 6 + 5 * (S t).rwn = ckPos S k0 (t + 1) by rw [ckPos_succ, HK.out]), hO6, hk6⟩
      case measure => simp [intOf]; omega
    · obtain rfl : t = N := by omega
      go_wp2
      go_ret
      exact ⟨by rw [HK.out]; rfl, hO.congr (fun i hi => by simp only [if_pos hi]), hk⟩

theorem markClerkS_told (ao : Option Addr) (N c base k0 : Nat) (S : Nat → ClkD) (R : Nat → Value) (w : World) (hN : N ≤ 1048577) (hk0 : k0 ≤ 30000000000000) (hs : ∀ i, i < N → (S i).rwn ≤ 2097152) (ho : OwnClks w base (.slice ao N c) N S R) :
    Calls Try.prog 20 #[.slice ao N c, .int .i64 k0] w fun e w' => e = .returned (.int .i64 ((ckPos S k0 N : Nat) : Int)) ∧ OwnClks w' base (.slice ao N c) N (ckMark S k0) R ∧ Kept w w' (fun b => base ≤ b) :=
  (markClerkS_fine ao N c base k0 S R w hN hk0 hs ho).mono fun e w' ⟨h1, h2, h3⟩ => ⟨h1, h2, h3.mono (fun b hb => by
    rcases hb with hb | ⟨i, hi, hb⟩
    · exact (ho.row.lt b hb).1
    · exact ((ho.rows i hi).lt b hb).1)⟩

end Go.Proofs.Ytogbaoggebghdaa
