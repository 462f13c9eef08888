/-
  OWN TEXT: MarkMRm, KitStr.
-/
import Derived.Deep.RegionHeld3
import Derived.Test.YtogbaoggebghdaaRows
import Derived.Deep.DeepCutAuto
import Derived.Test.YtogbaoggebghdaaB02
import Derived.Test.YtogbaoggebghdaaXerks00
import Derived.Test.YtogbaoggebghdaaB00
import Derived.Test.YtogbaoggebghdaaB04
namespace Go.Proofs.Ytogbaoggebghdaa
open Go.RowKit

theorem markText_isI (z : Int) (w : World) (h0 : 0 ≤ z) (hk : z ≤ 1000000000000000) :
    Calls Try.prog 57 #[.int .i64 z] w fun e w' => e = .returned (.string (markT z.toNat)) ∧ Below w.heap.size w w' := by
  obtain ⟨q, rfl⟩ := Int.eq_ofNat_of_zero_le h0
  exact markText_is q w (by omega)
/-- What a marked row holds. -/
def rowMark (k0 : Nat) (i : Nat) : MRow := ⟨(k0 : Int) + 5 * i, markT (k0 + 5 * i + 1), (k0 : Int) + 5 * i + 2, (k0 : Int) + 5 * i + 3, (k0 : Int) + 5 * i + 4⟩

set_option maxHeartbeats 1600000 in
set_option maxRecDepth 100000 in
theorem markRowS_own (ao : Option Addr) (n c base k0 : Nat) (S : Nat → MRow) (w : World) (hn : n ≤ 2097152) (h1 : k0 ≤ 100000000000000) (ho : w.ownsRow base 84 5 (.slice ao n c) n (rowList S n)) :
    Calls Try.prog 58 #[.slice ao n c, .int .i64 k0] w fun e w' => e = .returned (.int .i64 ((k0 + 5 * n : Nat) : Int)) ∧ w'.ownsRow base 84 5 (.slice ao n c) n (rowList (rowMark k0) n) ∧ Kept w w' (fun b => (Value.slice ao n c).ownBlock = some b) := by
  go_enter Try.func58, Try.ntmps58
  go_wp2
  go_loopw [1, 5] (fun q i wr => ∃ (t k : Nat), t ≤ n ∧ i = .int .i64 t ∧ q = .int .i64 k ∧ k = k0 + 5 * t ∧ wr.ownsRow base 84 5 (.slice ao n c) n ((List.range (n * 5)).map (rowCell (fun i => if i < t then rowMark k0 i else S i))) ∧ Kept w wr (fun b => (Value.slice ao n c).ownBlock = some b)) (fun _ i _ => n - (intOf i).toNat)
  case atStart => exact ⟨0, k0, Nat.zero_le _, rfl, rfl, by omega, by simpa [rowList] using ho, Kept.refl _ _⟩
  case round =>
    obtain ⟨t, k, ht, rfl, rfl, hkk, hown, hk⟩ := hrel
    have HKK : Hid (k = k0 + 5 * t) := hkk
    have kb : k ≤ 200000000000000 := by omega
    clear hkk
    by_cases hlt : t < n
    · obtain ⟨g, rfl, hg1, hg2⟩ := own_addr hown (by omega)
      obtain ⟨v0, hc0⟩ : ∃ v, wr.cell? ⟨g, t * 5, none⟩ = some v := ⟨_, own_cell hown (t * 5) (by omega) rfl⟩
      have hf0 := hown.frozenAt (t * 5)
      go_wp2_with fail
      refine (markText_isI _ _ (by omega) (by omega)).mono ?_
      rintro e w2 ⟨rfl, hb2⟩
      have hown2 := own_below hb2 (own_store hown (t * 5) (.int .i64 k))
      have hk2 := (hk.set (a := ⟨g, t * 5, none⟩) rfl (.int .i64 k)).trans (Kept.of_below hb2)
      clear hc0 hf0 hb2 hown hk
      obtain ⟨v1, hc1⟩ : ∃ v, w2.cell? ⟨g, t * 5 + 1, none⟩ = some v := ⟨_, own_cell hown2 (t * 5 + 1) (by omega) rfl⟩
      have hf1 := hown2.frozenAt (t * 5 + 1)
      obtain ⟨v2, hc2⟩ : ∃ v, w2.cell? ⟨g, t * 5 + 2, none⟩ = some v := ⟨_, own_cell hown2 (t * 5 + 2) (by omega) rfl⟩
      have hf2 := hown2.frozenAt (t * 5 + 2)
      obtain ⟨v3, hc3⟩ : ∃ v, w2.cell? ⟨g, t * 5 + 3, none⟩ = some v := ⟨_, own_cell hown2 (t * 5 + 3) (by omega) rfl⟩
      have hf3 := hown2.frozenAt (t * 5 + 3)
      obtain ⟨v4, hc4⟩ : ∃ v, w2.cell? ⟨g, t * 5 + 4, none⟩ = some v := ⟨_, own_cell hown2 (t * 5 + 4) (by omega) rfl⟩
      have hf4 := hown2.frozenAt (t * 5 + 4)
      have htx : ((k : Int) + 1).toNat = k0 + 5 * t + 1 := by have := HKK.out; omega
      rw [htx]
      clear htx
      go_wp2
      go_roundw
      case rel =>
        refine ⟨t + 1, k + 5, by omega, by go_num, by go_num, by have := HKK.out; omega, own_congr (own_store (own_store (own_store (own_store hown2 (t * 5 + 1) _) (t * 5 + 2) _) (t * 5 + 3) _) (t * 5 + 4) _) (fun j hj => ?_), ((((hk2.set (a := ⟨g, t * 5 + 1, none⟩) rfl _).set (a := ⟨g, t * 5 + 2, none⟩) rfl _).set (a := ⟨g, t * 5 + 3, none⟩) rfl _).set (a := ⟨g, t * 5 + 4, none⟩) rfl _)⟩
        have e0 : (k : Int) = (k0 : Int) + 5 * t := by have := HKK.out; omega
        have key : ∀ (S' : Nat → MRow), (∀ i, i ≠ t → S' i = (if i < t then rowMark k0 i else S i)) → (S' t = rowMark k0 t) → rowCell S' j = rowCell (fun i => if i < t + 1 then rowMark k0 i else S i) j := by
          intro S' h1 h2
          unfold rowCell
          have : S' (j / 5) = (if j / 5 < t + 1 then rowMark k0 (j / 5) else S (j / 5)) := by
            by_cases e : j / 5 = t
            · rw [e, h2, if_pos (by omega)]
            · rw [h1 _ e]
              by_cases e2 : j / 5 < t
              · rw [if_pos e2, if_pos (by omega)]
              · rw [if_neg e2, if_neg (by omega)]
          rw [this]
        rw [← key (fun i => if i = t then rowMark k0 t else if i < t then rowMark k0 i else S i) (fun i h => if_neg h) (if_pos rfl)]
        by_cases h4 : j = t * 5 + 4
        · subst h4; rw [if_pos rfl, rowCell_4, if_pos rfl]; simp [rowMark]; try omega
        rw [if_neg h4]
        by_cases h3 : j = t * 5 + 3
        · subst h3; rw [if_pos rfl, rowCell_3, if_pos rfl]; simp [rowMark]; try omega
        rw [if_neg h3]
        by_cases h2 : j = t * 5 + 2
        · subst h2; rw [if_pos rfl, rowCell_2, if_pos rfl]; simp [rowMark]; try omega
        rw [if_neg h2]
        by_cases h1 : j = t * 5 + 1
        · subst h1; rw [if_pos rfl, rowCell_1, if_pos rfl]; simp [rowMark]; try omega
        rw [if_neg h1]
        by_cases h0 : j = t * 5
        · subst h0; rw [if_pos rfl, rowCell_0, if_pos rfl]; simp [rowMark]; try omega
        rw [if_neg h0]
        have hne : j / 5 ≠ t := by omega
        unfold rowCell
        simp only [if_neg hne]
      case measure => simp [intOf]; omega
    · obtain rfl : t = n := by omega
      go_wp2
      go_ret
      refine ⟨by rw [HKK.out]; rfl, ?_, hk⟩
      rw [rowList_congr (S := rowMark k0) (S' := fun i => if i < t then rowMark k0 i else S i) (fun i hi => (if_pos hi).symm)]
      exact hown

end Go.Proofs.Ytogbaoggebghdaa

namespace Go.Proofs.Ytogbaoggebghdaa
open Go.RowKit

theorem Try.infoStr : (Try.prog.info? 9).map (fun i => (i.zero, i.size, i.bytes)) = some (some (.string ⟨#[]⟩), 1, 16) := by kernel_rfl
/-- The slice at ao reads as n texts. -/
def StrsAt (w : World) (ao : Option Addr) (n : Nat) (F : Nat → ByteArray) : Prop := ∀ k, k < n → ∃ b off, ao = some ⟨b, off, none⟩ ∧ w.cell? ⟨b, off + k, none⟩ = some (.string (F k))
theorem StrsAt.below {w w' : World} {ao : Option Addr} {n : Nat} {F : Nat → ByteArray} (h : StrsAt w ao n F) (hb : Below w.heap.size w w') : StrsAt w' ao n F := by
  intro k hk
  obtain ⟨b, off, e, hc⟩ := h k hk
  exact ⟨b, off, e, (hb.cell (World.block_lt_of_cell? w _ hc)).trans hc⟩
def strList (F : Nat → ByteArray) (n : Nat) : List Value := (List.range n).map (fun k => .string (F k))
theorem strList_succ (F : Nat → ByteArray) (k : Nat) : strList F (k + 1) = strList F k ++ [.string (F k)] := by
  unfold strList; rw [List.range_succ, List.map_append]; rfl
theorem strList_congr {F G : Nat → ByteArray} {n : Nat} (h : ∀ i, i < n → F i = G i) : strList F n = strList G n := by
  unfold strList
  refine List.map_congr_left (fun j hj => ?_)
  rw [h j (by simpa using hj)]
theorem own_strs {w : World} {base e n c : Nat} {ao : Option Addr} {F : Nat → ByteArray} (h : w.ownsRow base e 1 (.slice ao n c) n (strList F n)) : StrsAt w ao n F := by
  intro k hk
  obtain ⟨g, rfl, _, _⟩ := own_addr h (by omega)
  have c0 := own_cell h k (by omega) (by omega)
  exact ⟨g, 0, rfl, by rw [Nat.zero_add]; exact c0⟩

set_option maxHeartbeats 800000 in
set_option maxRecDepth 100000 in
theorem eqStringS_same (ao bo : Option Addr) (n c1 c2 : Nat) (f : Nat → ByteArray) (w : World) (hn : n ≤ 1048576) (hx : StrsAt w ao n f) (hy : StrsAt w bo n f) :
    Calls Try.prog 29 #[.slice ao n c1, .slice bo n c2] w fun e w' => e = .returned (.bool true) ∧ Below w.heap.size w w' := by
  go_enter Try.func29, Try.ntmps29
  go_wp2
  go_loopw [5] (fun i wr => ∃ k : Nat, k ≤ n ∧ i = .int .i64 k ∧ Below w.heap.size w wr) (fun i _ => n - (intOf i).toNat)
  case atStart => exact ⟨0, Nat.zero_le _, rfl, Below.refl _ _⟩
  case round =>
    obtain ⟨k, hk, rfl, hbel⟩ := hrel
    by_cases hlt : k < n
    · obtain ⟨b, off, rfl, hc⟩ := hx k (by omega)
      obtain ⟨b2, off2, rfl, hd⟩ := hy k (by omega)
      have hc' : ∀ g : Grown wr, g.val.cell? ⟨b, off + k, none⟩ = some (.string (f k)) := fun g => ((hbel.trans (g.bel.mono hbel.size)).cell (World.block_lt_of_cell? w _ hc)).trans hc
      have hd' : ∀ g : Grown wr, g.val.cell? ⟨b2, off2 + k, none⟩ = some (.string (f k)) := fun g => ((hbel.trans (g.bel.mono hbel.size)).cell (World.block_lt_of_cell? w _ hd)).trans hd
      have i1 : (0 : Int) ≤ (k : Int) := by omega
      have i2 : (k : Int) < (n : Int) := by omega
      clear hc hd
      go_upto_region 6 with fail
      refine wp_region_grow (by kernel_rfl) (by kernel_rfl) ?_
      repeat (first | go_big_quiet_skip | (go_big_quiet_want; go_big_quiet_op; go_big_quiet_on))
      refine wpQuiet_nil ?_
      rintro _ ⟨g, rfl⟩
      clear hc' hd'
      go_wp2
      go_roundw
      case rel => exact ⟨k + 1, by omega, by go_num, after hbel g.bel⟩
      case measure => simp [intOf]; omega
    · go_wp2
      go_ret
      exact ⟨rfl, hbel⟩

set_option maxHeartbeats 800000 in
set_option maxRecDepth 100000 in
theorem markStringS_own (ao : Option Addr) (n c base k0 : Nat) (F : Nat → ByteArray) (w : World) (hn : n ≤ 1048576) (h1 : k0 ≤ 100000000000000) (ho : w.ownsRow base 9 1 (.slice ao n c) n (strList F n)) :
    Calls Try.prog 30 #[.slice ao n c, .int .i64 k0] w fun e w' => e = .returned (.int .i64 ((k0 + n : Nat) : Int)) ∧ w'.ownsRow base 9 1 (.slice ao n c) n (strList (fun j => markT (k0 + j)) n) ∧ Kept w w' (fun b => (Value.slice ao n c).ownBlock = some b) := by
  go_enter Try.func30, Try.ntmps30
  go_wp2
  go_loopw [1, 5] (fun q i wr => ∃ (t k : Nat), t ≤ n ∧ i = .int .i64 t ∧ q = .int .i64 k ∧ Hid (k = k0 + t) ∧ wr.ownsRow base 9 1 (.slice ao n c) n ((List.range n).map (fun j => .string (if j < t then markT (k0 + j) else F j))) ∧ Kept w wr (fun b => (Value.slice ao n c).ownBlock = some b)) (fun _ i _ => n - (intOf i).toNat)
  case atStart => exact ⟨0, k0, Nat.zero_le _, rfl, rfl, rfl, own_congr ho (by intro i _; simp), Kept.refl _ _⟩
  case round =>
    obtain ⟨t, k, ht, rfl, rfl, HK, hown, hk⟩ := hrel
    have hkb : k ≤ 200000000000000 := by have := HK.out; omega
    by_cases hlt : t < n
    · obtain ⟨g, rfl, hg1, hg2⟩ := own_addr hown (by omega)
      go_wp2_with fail
      refine (markText_is k _ (by omega)).mono ?_
      rintro e w2 ⟨rfl, hb2⟩
      replace hk := hk.trans (Kept.of_below hb2)
      replace hown := own_below hb2 hown
      have hc := own_cell hown t (by omega) (by omega)
      have hf := hown.frozenAt t
      go_wp2
      go_roundw
      case rel =>
        refine ⟨t + 1, k + 1, by omega, by go_num, by go_num, (show k + 1 = k0 + (t + 1) by have := HK.out; omega), ?_, hk.set (show (Value.slice (some ⟨g, 0, none⟩) n c).ownBlock = some g from rfl) _⟩
        refine own_congr (own_store hown t _) (fun i _ => ?_)
        by_cases e : i = t
        · rw [if_pos e, if_pos (by omega), HK.out, e]
        · simp only [if_neg e]
          by_cases e2 : i < t
          · rw [if_pos e2, if_pos (by omega)]
          · rw [if_neg e2, if_neg (by omega)]
      case measure => simp [intOf]; omega
    · have : t = n := by omega
      subst this
      go_wp2
      go_ret
      exact ⟨by rw [HK.out]; rfl, own_congr hown (by intro i hi; simp [hi]), hk⟩

set_option maxHeartbeats 800000 in
set_option maxRecDepth 100000 in
theorem heldStringS_yes (ao : Option Addr) (n c k0 : Nat) (w : World) (hn : n ≤ 1048576) (h1 : k0 ≤ 100000000000000) (hz : StrsAt w ao n (fun j => markT (k0 + j))) :
    Calls Try.prog 31 #[.slice ao n c, .int .i64 k0] w fun e w' => e = .returned (.int .i64 ((k0 + n : Nat) : Int)) ∧ Below w.heap.size w w' := by
  have HZ : Hid (StrsAt w ao n (fun j => markT (k0 + j))) := hz
  clear hz
  go_enter Try.func31, Try.ntmps31
  go_wp2
  go_loopw [1, 5] (fun q i wr => ∃ (t k : Nat), t ≤ n ∧ i = .int .i64 t ∧ q = .int .i64 k ∧ Hid (k = k0 + t) ∧ Below w.heap.size w wr) (fun _ i _ => n - (intOf i).toNat)
  case atStart => exact ⟨0, k0, Nat.zero_le _, rfl, rfl, rfl, Below.refl _ _⟩
  case round =>
    obtain ⟨t, k, ht, rfl, rfl, HK, hbel⟩ := hrel
    have hkb : k ≤ 200000000000000 := by have := HK.out; omega
    by_cases hlt : t < n
    · obtain ⟨b, off, rfl, hc⟩ := HZ.out t hlt
      have hck : w.cell? ⟨b, off + t, none⟩ = some (.string (markT k)) := by rw [HK.out]; exact hc
      have hc' : ∀ g : Grown wr, g.val.cell? ⟨b, off + t, none⟩ = some (.string (markT k)) := fun g => ((hbel.trans (g.bel.mono hbel.size)).cell (World.block_lt_of_cell? w _ hck)).trans hck
      have i1 : (0 : Int) ≤ (t : Int) := by omega
      have i2 : (t : Int) < (n : Int) := by omega
      have HM : Hid (∀ g : Grown wr, Calls Try.prog 57 #[.int .i64 k] g.val fun e w' => e = .returned (.string (markT k)) ∧ Below g.val.heap.size g.val w') := fun g => markText_is k g.val (by omega)
      clear hc hck
      go_upto_region 4 with fail
      refine wp_region_grow (by kernel_rfl) (by kernel_rfl) ?_
      repeat (first | go_big_quiet_skip | (go_big_quiet_want; go_big_quiet_op; first | go_big_quiet_on | (apply Exists.intro; refine ⟨fun g => ?_, ?_⟩; (focus (first | (go_at_call 57; (with_reducible refine grown_call (HM.out g))))); go_big_quiet_on)))
      refine wpQuiet_nil ?_
      rintro _ ⟨g, rfl⟩
      clear hc' HM
      go_wp2
      go_roundw
      case rel => exact ⟨t + 1, k + 1, by omega, by go_num, by go_num, (show k + 1 = k0 + (t + 1) by have := HK.out; omega), after hbel g.bel⟩
      case measure => simp [intOf]; omega
    · have : t = n := by omega
      subst this
      go_wp2
      go_ret
      exact ⟨by rw [HK.out]; rfl, hbel⟩

end Go.Proofs.Ytogbaoggebghdaa
