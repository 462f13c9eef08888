/-
  OWN TEXT: HeldCk, MarkAns.
-/
import Derived.Deep.DeepCutAuto
import Derived.Deep.RegionHeld3
import Derived.Test.YtogbaoggebghdaaXlerk05
import Derived.Test.YtogbaoggebghdaaB04
import Derived.Test.YtogbaoggebghdaaXlerk02
import Derived.Test.YtogbaoggebghdaaB05
namespace Go.Proofs.Ytogbaoggebghdaa
open Go.RowKit

set_option maxHeartbeats 6400000 in
set_option maxRecDepth 100000 in
theorem heldClerkS_yes (ao : Option Addr) (N c k0 : Nat) (S : Nat → ClkD) (w : World) (hN : N ≤ 1048577) (hk0 : k0 ≤ 30000000000000) (hs : ∀ i, i < N → (S i).rwn ≤ 2097152) (hz : ClkDsAt w ao N (ckMark S k0)) :
    Calls Try.prog 22 #[.slice ao N c, .int .i64 k0] w fun e w' => e = .returned (.int .i64 ((ckPos S k0 N : Nat) : Int)) ∧ Below w.heap.size w w' := by
  have HS : Hid (∀ i, i < N → (S i).rwn ≤ 2097152) := hs
  have HP : Hid (∀ i, i ≤ N → ckPos S k0 i ≤ k0 + i * 10485766) := ckPos_le S k0 N hs
  have HX : Hid (ClkDsAt w ao N (ckMark S k0)) := hz
  clear hs hz
  go_enter Try.func22, Try.ntmps22
  go_wp2
  go_loopw [1, 5] (fun q i wr => ∃ t k : Nat, t ≤ N ∧ i = .int .i64 t ∧ q = .int .i64 k ∧ Hid (k = ckPos S k0 t) ∧ Below w.heap.size w wr) (fun _ i _ => N - (intOf i).toNat)
  case atStart => exact ⟨0, k0, Nat.zero_le _, rfl, rfl, rfl, Below.refl _ _⟩
  case round =>
    obtain ⟨t, k, ht, rfl, rfl, HK, hbel⟩ := hrel
    have kb : k ≤ 50000000000000 := by have := HK.out; have := HP.out t ht; omega
    by_cases hlt : t < N
    · have n2 := HS.out t hlt
      obtain ⟨C, hC, hI⟩ := HX.out
      obtain ⟨b, off, ea, hc⟩ := hC t hlt
      obtain ⟨ra, rc, eC, hrw, q1⟩ := hI t hlt
      unfold ckMark clkMark at eC hrw
      rw [← HK.out] at eC hrw
      have l1 : b < w.heap.size := World.block_lt_of_cell? w _ (hc 0 (by decide))
      subst ea
      have HC : Hid (∀ w', Below w.heap.size w w' → w'.cell? ⟨b, off + t * 7, none⟩ = some (.string (markT k)) ∧ w'.cell? ⟨b, off + t * 7 + 1, none⟩ = some (.int .i64 ((k : Int) + 1)) ∧ w'.cell? ⟨b, off + t * 7 + 2, none⟩ = some (.bool (((k : Int) + 2) % 3 == 0)) ∧ w'.cell? ⟨b, off + t * 7 + 3, none⟩ = some (.int .i64 ((k : Int) + 3)) ∧ w'.cell? ⟨b, off + t * 7 + 4, none⟩ = some (.int .i64 ((k : Int) + 4)) ∧ w'.cell? ⟨b, off + t * 7 + 5, none⟩ = some (.int .i64 ((k : Int) + 5)) ∧ w'.cell? ⟨b, off + t * 7 + 6, none⟩ = some (.slice ra (S t).rwn rc)) := fun w' h => ⟨(h.cell (p := ⟨b, off + t * 7, none⟩) l1).trans (by have := hc 0 (by decide); rw [eC] at this; exact this), (h.cell (p := ⟨b, off + t * 7 + 1, none⟩) l1).trans (by have := hc 1 (by decide); rw [eC] at this; exact this), (h.cell (p := ⟨b, off + t * 7 + 2, none⟩) l1).trans (by have := hc 2 (by decide); rw [eC] at this; exact this), (h.cell (p := ⟨b, off + t * 7 + 3, none⟩) l1).trans (by have := hc 3 (by decide); rw [eC] at this; exact this), (h.cell (p := ⟨b, off + t * 7 + 4, none⟩) l1).trans (by have := hc 4 (by decide); rw [eC] at this; exact this), (h.cell (p := ⟨b, off + t * 7 + 5, none⟩) l1).trans (by have := hc 5 (by decide); rw [eC] at this; exact this), (h.cell (p := ⟨b, off + t * 7 + 6, none⟩) l1).trans (by have := hc 6 (by decide); rw [eC] at this; exact this)⟩
      have HRW : Hid (MRowsAt w ra (S t).rwn (rowMark (k + 6))) := hrw
      clear hC hI hc eC hrw q1
      have hc' : ∀ g : Grown wr, g.val.cell? ⟨b, off + t * 7, none⟩ = some (.string (markT k)) := fun g => (HC.out g.val (after hbel g.bel)).1
      have i1 : (0 : Int) ≤ (t : Int) := by omega
      have i2 : (t : Int) < (N : Int) := by omega
      have HM : Hid (∀ g : Grown wr, Calls Try.prog 57 #[.int .i64 k] g.val fun e w' => e = .returned (.string (markT k)) ∧ Below g.val.heap.size g.val w') := fun g => markText_is k g.val (by omega)
      go_upto_region 4 with fail
      refine wp_region_grow (by kernel_rfl) (by kernel_rfl) ?_
      repeat (first | go_big_quiet_skip | (go_big_quiet_want; go_big_quiet_op; first | go_big_quiet_on | (apply Exists.intro; refine ⟨fun g => ?_, ?_⟩; (focus (first | (go_at_call 57; (with_reducible refine grown_call (HM.out g))))); go_big_quiet_on)))
      refine wpQuiet_nil ?_
      rintro _ ⟨g, rfl⟩
      clear hc' HM
      have hbw := after hbel g.bel
      obtain ⟨_, c1, c2, c3, c4, c5, c6⟩ := HC.out g.val hbw
      generalize g.val = W at hbw c1 c2 c3 c4 c5 c6 ⊢
      clear hbel
      have f2 : ((((k : Int) + 2) % 3 == 0) == (((k : Int) + 1 + 1) % 3 == 0)) = true := by rw [show (k : Int) + 1 + 1 = (k : Int) + 2 by omega]; simp
      have f3 : (((k : Int) + 3) != (k : Int) + 1 + 1 + 1) = false := by simp; omega
      have f4 : (((k : Int) + 4) != (k : Int) + 1 + 1 + 1 + 1) = false := by simp; omega
      have f5 : (((k : Int) + 5) != (k : Int) + 1 + 1 + 1 + 1 + 1) = false := by simp; omega
      go_wp2_with fail
      refine (heldRowS_yesI ra (S t).rwn rc ((k : Int) + 1 + 1 + 1 + 1 + 1 + 1) W n2 (by omega) (by omega) (by rw [show ((k : Int) + 1 + 1 + 1 + 1 + 1 + 1).toNat = k + 6 by omega]; exact HRW.out.below hbw)).mono ?_
      rintro e w6 ⟨rfl, hb6⟩
      have hb6 := after hbw hb6
      have d6 : decide ((k : Int) + 1 + 1 + 1 + 1 + 1 + 1 + 5 * ((S t).rwn : Int) < 0) = false := by simp; omega
      go_wp2
      go_roundw
      case rel => exact ⟨t + 1, k + 6 + 5 * (S t).rwn, by omega, by go_num, by go_num, (show k + 6 + 5 * (S t).rwn = ckPos S k0 (t + 1) by rw [ckPos_succ, HK.out]), hb6⟩
      case measure => simp [intOf]; omega
    · obtain rfl : t = N := by omega
      go_wp2
      go_ret
      exact ⟨by rw [HK.out]; rfl, hbel⟩

end Go.Proofs.Ytogbaoggebghdaa

namespace Go.Proofs.Ytogbaoggebghdaa
open Go.RowKit Classical

/-- The blocks of own clerks. -/
def ckBlocks (v : Value) (N : Nat) (R : Nat → Value) (b : Nat) : Prop := v.ownBlock = some b ∨ ∃ i, i < N ∧ (R i).ownBlock = some b
section
variable {w w' : World} {base : Nat} {v : Value} {N : Nat} {S : Nat → ClkD} {R : Nat → Value}
theorem OwnClks.blocks (h : OwnClks w base v N S R) : ∀ b, ckBlocks v N R b → base ≤ b ∧ b < w.heap.size := by
  rintro b (hb | ⟨i, hi, hb⟩)
  · exact h.row.lt b hb
  · exact (h.rows i hi).lt b hb
theorem OwnClks.keep {T : Nat → Prop} (h : OwnClks w base v N S R) (hk : Kept w w' T) (hT : ∀ b, ckBlocks v N R b → ¬ T b) : OwnClks w' base v N S R :=
  ⟨hk.own h.row (fun g hg s => hT g (.inl hg) s), fun i hi => hk.own (h.rows i hi) (fun g hg s => hT g (.inr ⟨i, hi, hg⟩) s), h.apart⟩
end
theorem settle_short {N : Nat} {S : Nat → ClkD} {nm : ByteArray} {a : AnsD} {N' : Nat} {S' : Nat → ClkD} {z : Int} (h : SettleIs N S nm a N' S' z) (hN : N ≤ 1048576) (hs : ClkDsShort N S 1048576) (ha : AnsD.Short a 1048576) : N' ≤ 1048576 ∧ ClkDsShort N' S' 1048576 := by
  rcases h with ⟨_, rfl, _⟩ | ⟨_, rfl, p, _, h⟩
  · exact ⟨Nat.zero_le _, fun i hi => absurd hi (Nat.not_lt_zero _)⟩
  refine ⟨hN, fun i hi => ?_⟩
  rcases h with ⟨k, hk, _, _, _, hS⟩ | ⟨_, _, hS⟩
  · rw [hS i hi]
    by_cases e : i = k
    · subst e; rw [putC_at]; exact ⟨(hs i hi).1, ha⟩
    · rw [putC_ne _ _ _ e]; exact hs i hi
  · rw [hS i hi]; exact hs i hi

set_option maxHeartbeats 1600000 in
theorem markAnswer_own (code anam price : Int) (ao : Option Addr) (n c base : Nat) (z : Int) (T : Nat → MRow) (w : World) (hn : n ≤ 2097152) (h0 : 0 ≤ z) (h1 : z ≤ 100000000000000) (ho : w.ownsRow base 84 5 (.slice ao n c) n (rowList T n)) :
    Calls Try.prog 21 #[.agg #[.int .i64 code, .int .i64 anam, .int .i64 price, .slice ao n c], .int .i64 z] w fun e w' => e = .returned (.int .i64 (z + 5 * n)) ∧ w'.ownsRow base 84 5 (.slice ao n c) n (rowList (rowMark z.toNat) n) ∧ Kept w w' (fun b => (Value.slice ao n c).ownBlock = some b) := by
  have bX := heap_alloc_new w (.cells #[.int .i64 code, .int .i64 anam, .int .i64 price, .slice ao n c] 28)
  have hb0 : Below w.heap.size w (w.alloc (.cells #[.int .i64 code, .int .i64 anam, .int .i64 price, .slice ao n c] 28)) := push (Below.refl _ _) _
  have x3 := blk_cell bX 3 _ rfl
  have HO : Hid (w.ownsRow base 84 5 (.slice ao n c) n (rowList T n)) := ho
  clear ho
  go_enter Try.func21, Try.ntmps21
  go_wp2_with fail
  refine (markRowS_ownI ao n c base z T _ hn h0 h1 (own_below hb0 HO.out)).mono ?_
  rintro e w2 ⟨rfl, ho2, hk2⟩
  go_wp2
  go_ret
  exact ⟨rfl, ho2, (Kept.of_below (S := fun b => (Value.slice ao n c).ownBlock = some b) hb0).trans hk2⟩

end Go.Proofs.Ytogbaoggebghdaa
