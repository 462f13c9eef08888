/-
  OWN TEXT: MarkMRow, LawMan.
-/
import Derived.Deep.RegionHeld3
import Derived.Test.YtlnadbnoemlpeaaGreatXstOf01
import Derived.Test.YtlnadbnoemlpeaaGreatXstOf09
import Derived.Test.YtlnadbnoemlpeaaGreatXstOf04
import Derived.Test.YtlnadbnoemlpeaaGreatB32
import Derived.Test.YtlnadbnoemlpeaaGreatXstOf08
namespace Go.Proofs.YtlnadbnoemlpeaaGreat
open Go.RowKit

theorem markText_isI (z : Int) (w : World) (h0 : 0 ≤ z) (hk : z ≤ 1000000000000000) :
    Calls Tryz.prog 52 #[.int .i64 z] w fun e w' => e = .returned (.string (markT z.toNat)) ∧ Below w.heap.size w w' := by
  obtain ⟨q, rfl⟩ := Int.eq_ofNat_of_zero_le h0
  exact markText_is q w (by omega)
/-- What a marked row holds. -/
def rowMark (k0 : Nat) (i : Nat) : MRow := ⟨(k0 : Int) + 5 * i, markT (k0 + 5 * i + 1), (k0 : Int) + 5 * i + 2, (k0 : Int) + 5 * i + 3, (k0 : Int) + 5 * i + 4⟩

set_option maxHeartbeats 1600000 in
set_option maxRecDepth 100000 in
theorem markRowS_own (ao : Option Addr) (n c base k0 : Nat) (S : Nat → MRow) (w : World) (hn : n ≤ 2097152) (h1 : k0 ≤ 100000000000000) (ho : w.ownsRow base 89 5 (.slice ao n c) n (rowList S n)) :
    Calls Tryz.prog 15 #[.slice ao n c, .int .i64 k0] w fun e w' => e = .returned (.int .i64 ((k0 + 5 * n : Nat) : Int)) ∧ w'.ownsRow base 89 5 (.slice ao n c) n (rowList (rowMark k0) n) ∧ Kept w w' (fun b => (Value.slice ao n c).ownBlock = some b) := by
  go_enter Tryz.func15, Tryz.ntmps15
  go_wp2
  go_loopw [1, 5] (fun q i wr => ∃ (t k : Nat), t ≤ n ∧ i = .int .i64 t ∧ q = .int .i64 k ∧ k = k0 + 5 * t ∧ wr.ownsRow base 89 5 (.slice ao n c) n ((List.range (n * 5)).map (rowCell (fun i => if i < t then rowMark k0 i else S i))) ∧ Kept w wr (fun b => (Value.slice ao n c).ownBlock = some b)) (fun _ i _ => n - (intOf i).toNat)
  case atStart => exact ⟨0, k0, Nat.zero_le _, rfl, rfl, by omega, by simpa [rowList] using ho, Kept.refl _ _⟩
  case round =>
    obtain ⟨t, k, ht, rfl, rfl, hkk, hown, hk⟩ := hrel
    have HKK : Hid (k = k0 + 5 * t) := hkk
    have kb : k ≤ 200000000000000 := by omega
    clear hkk
    by_cases hlt : t < n
    · obtain ⟨g, rfl, hg1, hg2⟩ := own_addr hown (by omega)
      obtain ⟨v0, hc0⟩ : ∃ v, wr.cell? ⟨g, t * 5, none⟩ = some v := ⟨_, own_cell hown (t * 5) (by omega) rfl⟩
      have hf0 := hown.frozenAt (t * 5)
      go_wp2_with fail
      refine (markText_isI _ _ (by omega) (by omega)).mono ?_
      rintro e w2 ⟨rfl, hb2⟩
      have hown2 := own_below hb2 (own_store hown (t * 5) (.int .i64 k))
      have hk2 := (hk.set (a := ⟨g, t * 5, none⟩) rfl (.int .i64 k)).trans (Kept.of_below hb2)
      clear hc0 hf0 hb2 hown hk
      obtain ⟨v1, hc1⟩ : ∃ v, w2.cell? ⟨g, t * 5 + 1, none⟩ = some v := ⟨_, own_cell hown2 (t * 5 + 1) (by omega) rfl⟩
      have hf1 := hown2.frozenAt (t * 5 + 1)
      obtain ⟨v2, hc2⟩ : ∃ v, w2.cell? ⟨g, t * 5 + 2, none⟩ = some v := ⟨_, own_cell hown2 (t * 5 + 2) (by omega) rfl⟩
      have hf2 := hown2.frozenAt (t * 5 + 2)
      obtain ⟨v3, hc3⟩ : ∃ v, w2.cell? ⟨g, t * 5 + 3, none⟩ = some v := ⟨_, own_cell hown2 (t * 5 + 3) (by omega) rfl⟩
      have hf3 := hown2.frozenAt (t * 5 + 3)
      obtain ⟨v4, hc4⟩ : ∃ v, w2.cell? ⟨g, t * 5 + 4, none⟩ = some v := ⟨_, own_cell hown2 (t * 5 + 4) (by omega) rfl⟩
      have hf4 := hown2.frozenAt (t * 5 + 4)
      have htx : ((k : Int) + 1).toNat = k0 + 5 * t + 1 := by have := HKK.out; omega
      rw [htx]
      clear htx
      go_wp2
      go_roundw
      case rel =>
        refine ⟨t + 1, k + 5, by omega, by go_num, by go_num, by have := HKK.out; omega, own_congr (own_store (own_store (own_store (own_store hown2 (t * 5 + 1) _) (t * 5 + 2) _) (t * 5 + 3) _) (t * 5 + 4) _) (fun j hj => ?_), ((((hk2.set (a := ⟨g, t * 5 + 1, none⟩) rfl _).set (a := ⟨g, t * 5 + 2, none⟩) rfl _).set (a := ⟨g, t * 5 + 3, none⟩) rfl _).set (a := ⟨g, t * 5 + 4, none⟩) rfl _)⟩
        have e0 : (k : Int) = (k0 : Int) + 5 * t := by have := HKK.out; omega
        have key : ∀ (S' : Nat → MRow), (∀ i, i ≠ t → S' i = (if i < t then rowMark k0 i else S i)) → (S' t = rowMark k0 t) → rowCell S' j = rowCell (fun i => if i < t + 1 then rowMark k0 i else S i) j := by
          intro S' h1 h2
          unfold rowCell
          have : S' (j / 5) = (if j / 5 < t + 1 then rowMark k0 (j / 5) else S (j / 5)) := by
            by_cases e : j / 5 = t
            · rw [e, h2, if_pos (by omega)]
            · rw [h1 _ e]
              by_cases e2 : j / 5 < t
              · rw [if_pos e2, if_pos (by omega)]
              · rw [if_neg e2, if_neg (by omega)]
          rw [this]
        rw [← key (fun i => if i = t then rowMark k0 t else if i < t then rowMark k0 i else S i) (fun i h => if_neg h) (if_pos rfl)]
        by_cases h4 : j = t * 5 + 4
        · subst h4; rw [if_pos rfl, rowCell_4, if_pos rfl]; simp [rowMark]; try omega
        rw [if_neg h4]
        by_cases h3 : j = t * 5 + 3
        · subst h3; rw [if_pos rfl, rowCell_3, if_pos rfl]; simp [rowMark]; try omega
        rw [if_neg h3]
        by_cases h2 : j = t * 5 + 2
        · subst h2; rw [if_pos rfl, rowCell_2, if_pos rfl]; simp [rowMark]; try omega
        rw [if_neg h2]
        by_cases h1 : j = t * 5 + 1
        · subst h1; rw [if_pos rfl, rowCell_1, if_pos rfl]; simp [rowMark]; try omega
        rw [if_neg h1]
        by_cases h0 : j = t * 5
        · subst h0; rw [if_pos rfl, rowCell_0, if_pos rfl]; simp [rowMark]; try omega
        rw [if_neg h0]
        have hne : j / 5 ≠ t := by omega
        unfold rowCell
        simp only [if_neg hne]
      case measure => simp [intOf]; omega
    · obtain rfl : t = n := by omega
      go_wp2
      go_ret
      refine ⟨by rw [HKK.out]; rfl, ?_, hk⟩
      rw [rowList_congr (S := rowMark k0) (S' := fun i => if i < t then rowMark k0 i else S i) (fun i hi => (if_pos hi).symm)]
      exact hown

set_option maxHeartbeats 1600000 in
set_option maxRecDepth 100000 in
theorem heldRowS_yes (ao : Option Addr) (n c k0 : Nat) (w : World) (hn : n ≤ 2097152) (h1 : k0 ≤ 100000000000000) (hz : MRowsAt w ao n (rowMark k0)) :
    Calls Tryz.prog 16 #[.slice ao n c, .int .i64 k0] w fun e w' => e = .returned (.int .i64 ((k0 + 5 * n : Nat) : Int)) ∧ Below w.heap.size w w' := by
  have HZ : Hid (MRowsAt w ao n (rowMark k0)) := hz
  clear hz
  go_enter Tryz.func16, Tryz.ntmps16
  go_wp2
  go_loopw [1, 5] (fun q i wr => ∃ (t k : Nat), t ≤ n ∧ i = .int .i64 t ∧ q = .int .i64 k ∧ k = k0 + 5 * t ∧ Below w.heap.size w wr) (fun _ i _ => n - (intOf i).toNat)
  case atStart => exact ⟨0, k0, Nat.zero_le _, rfl, rfl, by omega, Below.refl _ _⟩
  case round =>
    obtain ⟨t, k, ht, rfl, rfl, hkk, hbel⟩ := hrel
    have HKK : Hid (k = k0 + 5 * t) := hkk
    have kb : k ≤ 200000000000000 := by omega
    clear hkk
    by_cases hlt : t < n
    · obtain ⟨b, off, rfl, c0, c1, c2, c3, c4⟩ := HZ.out t hlt
      simp only [rowMark] at c0 c1 c2 c3 c4
      have e0 : (k0 : Int) + 5 * t = (k : Int) := by have := HKK.out; omega
      have e1 : k0 + 5 * t + 1 = ((k : Int) + 1).toNat := by have := HKK.out; omega
      rw [e0] at c0 c2 c3 c4
      rw [e1] at c1
      have hb := World.block_lt_of_cell? w _ c0
      have i1 : (0 : Int) ≤ (t : Int) := by omega
      have i2 : (t : Int) < (n : Int) := by omega
      obtain ⟨s, hsd⟩ : ∃ s, s = markT ((k : Int) + 1).toNat := ⟨_, rfl⟩
      rw [← hsd] at c1
      have HSD : Hid (s = markT ((k : Int) + 1).toNat) := hsd
      have HC : Hid (∀ w', Below w.heap.size w w' → w'.cell? ⟨b, off + t * 5, none⟩ = some (.int .i64 k) ∧ w'.cell? ⟨b, off + t * 5 + 1, none⟩ = some (.string s) ∧ w'.cell? ⟨b, off + t * 5 + 2, none⟩ = some (.int .i64 ((k : Int) + 2)) ∧ w'.cell? ⟨b, off + t * 5 + 3, none⟩ = some (.int .i64 ((k : Int) + 3)) ∧ w'.cell? ⟨b, off + t * 5 + 4, none⟩ = some (.int .i64 ((k : Int) + 4))) := fun w' h =>
        ⟨(h.cell (p := ⟨b, off + t * 5, none⟩) hb).trans c0, (h.cell (p := ⟨b, off + t * 5 + 1, none⟩) hb).trans c1, (h.cell (p := ⟨b, off + t * 5 + 2, none⟩) hb).trans c2, (h.cell (p := ⟨b, off + t * 5 + 3, none⟩) hb).trans c3, (h.cell (p := ⟨b, off + t * 5 + 4, none⟩) hb).trans c4⟩
      clear c0 c1 c2 c3 c4 e0 e1 hsd
      obtain ⟨c0, c1, _, _, _⟩ := HC.out wr hbel
      go_wp2
      clear c0
      go_region_held3 (fun w' => w'.cell? ⟨b, off + t * 5 + 1, none⟩ = some (.string s))
        ((first | exact c1 | exact (HC.out _ (after hbel.drew hb3)).2.1))
        (first | (go_at_call 52; refine (markText_isI _ _ (by omega) (by omega)).mono ?_; rintro e w3 ⟨rfl, hb3⟩; rw [← HSD.out]))
      all_goals
        have hbw := after hbel.drew hb3
        obtain ⟨_, _, c2, c3, c4⟩ := HC.out w3 hbw
        have f2 : (((k : Int) + 2) != (k : Int) + 1 + 1) = false := by simp; omega
        have f3 : (((k : Int) + 3) != (k : Int) + 1 + 1 + 1) = false := by simp; omega
        have f4 : (((k : Int) + 4) != (k : Int) + 1 + 1 + 1 + 1) = false := by simp; omega
        go_wp2
        go_roundw
        case rel => exact ⟨t + 1, k + 5, by omega, by go_num, by go_num, by have := HKK.out; omega, hbw⟩
        case measure => simp [intOf]; omega
    · obtain rfl : t = n := by omega
      go_wp2
      go_ret
      exact ⟨by rw [HKK.out]; rfl, hbel⟩

end Go.Proofs.YtlnadbnoemlpeaaGreat

namespace Go.Proofs.YtlnadbnoemlpeaaGreat
open Go.RowKit

set_option maxHeartbeats 6400000 in
set_option maxRecDepth 100000 in
theorem lawManifestOf (cs : List Value) (x : Off) (z : Int) (w : World) (hs : Off.Short x 1000000000000000) (hi : Off.Is w cs x) :
    Calls Tryz.prog 4 #[.agg cs.toArray, .int .i64 z] w fun e w' => e = .returned (.bool true) ∧ Below w.heap.size w w' := by
  have HI : Hid (Off.Is w cs x) := hi
  obtain ⟨asa, csa, ald, cld, abk, cbk, rfl, h1, s1, h2, s2, h3, s3⟩ := hi
  clear h1 s1 h2 s2 h3 s3
  have HS : Hid (Off.Short x 1000000000000000) := hs
  clear hs
  have HB : Below w.heap.size w (w.alloc (.cells #[.slice asa x.san csa, .slice ald x.ldn cld, .slice abk x.bkn cbk] 26)) := push (Below.refl _ _) _
  have A := heap_alloc_new w (.cells #[.slice asa x.san csa, .slice ald x.ldn cld, .slice abk x.bkn cbk] 26)
  have HAW : Hid (w.heap.size < (w.alloc (.cells #[.slice asa x.san csa, .slice ald x.ldn cld, .slice abk x.bkn cbk] 26)).heap.size) := by show w.heap.size < (w.alloc (.cells #[.slice asa x.san csa, .slice ald x.ldn cld, .slice abk x.bkn cbk] 26)).heap.size; simp
  go_enter Tryz.func4, Tryz.ntmps4
  go_wp2_with fail
  generalize w.alloc (.cells #[.slice asa x.san csa, .slice ald x.ldn cld, .slice abk x.bkn cbk] 26) = wA at HB A HAW ⊢
  refine (szOffice_any [.slice asa x.san csa, .slice ald x.ldn cld, .slice abk x.bkn cbk] x _ HS.out (HI.out.below HB)).mono ?_
  rintro e w1 ⟨r, rfl, hr, hb⟩
  have HS1 : Hid (wA.heap.size ≤ w1.heap.size) := hb.size
  replace A := blk_below A hb
  replace HB := after HB hb
  clear hb
  rcases hr with rfl | ⟨r0, _, ht⟩
  · go_wp2
    go_ret
    exact ⟨rfl, HB⟩
  have d0 : decide (r < 0) = false := by simpa using r0
  have HT : Hid (Off.Short x 1048576) := ht
  clear ht HS
  obtain ⟨N, hN⟩ : ∃ q : Nat, q = (manL x z).length := ⟨_, rfl⟩
  obtain ⟨F, hF⟩ : ∃ q : Nat → MRow, q = nthR (manL x z) := ⟨_, rfl⟩
  obtain ⟨ok, hok⟩ : ∃ q : Bool, q = lOk x z := ⟨_, rfl⟩
  have b1 : N ≤ 30 := by rw [hN]; exact manL_le x z
  have HU : Hid (∀ b e W, ManU x z b 89 e W → ∃ v, e = .returned (.tuple #[v, .bool ok]) ∧ W.ownsRow b 89 5 v N (rowList F N)) := by rw [hN, hF, hok]; exact fun b e W h => h
  clear hN hF hok
  have q0 := blk_cell A 0 _ rfl
  have q1 := blk_cell A 1 _ rfl
  have q2 := blk_cell A 2 _ rfl
  go_wp2_with fail
  refine (toOffice_any [.slice asa x.san csa, .slice ald x.ldn cld, .slice abk x.bkn cbk] x _ HT.out (HI.out.below HB)).mono ?_
  rintro e w2 ⟨cs2, rfl, hin, hb⟩
  have HS2 : Hid (w1.heap.size ≤ w2.heap.size) := hb.size
  clear q0 q1 q2
  replace A := blk_below A hb
  replace HB := after HB hb
  clear hb
  have is2 := hin.is HT.out
  clear hin
  go_wp2_with fail
  refine (specMan_any cs2 x z _ HT.out is2).mono ?_
  rintro e w3 ⟨hu, hb⟩
  obtain ⟨u1, rfl, vw⟩ := HU.out _ _ _ hu
  have HS3 : Hid (w2.heap.size ≤ w3.heap.size) := hb.size
  clear hu is2
  replace A := blk_below A hb
  replace HB := after HB hb
  clear hb
  obtain ⟨aw, cw, rfl, _⟩ := own_form vw
  have HWL : Hid (∀ b, (Value.slice aw N cw).ownBlock = some b → w.heap.size ≤ b ∧ b < w3.heap.size) := fun b hb => by have := (World.ownsRow.lt vw b hb); have := HAW.out; have := HS1.out; have := HS2.out; exact ⟨by omega, by omega⟩
  have q0 := blk_cell A 0 _ rfl
  have q1 := blk_cell A 1 _ rfl
  have q2 := blk_cell A 2 _ rfl
  go_wp2_with fail
  refine (toOffice_any [.slice asa x.san csa, .slice ald x.ldn cld, .slice abk x.bkn cbk] x _ HT.out (HI.out.below HB)).mono ?_
  rintro e w4 ⟨cs4, rfl, hin4, hb⟩
  have HS4 : Hid (w3.heap.size ≤ w4.heap.size) := hb.size
  clear q0 q1 q2
  replace A := blk_below A hb
  replace HB := after HB hb
  replace vw := own_below hb vw
  clear hb
  have HIN4 : Hid (Off.In w4 w3.heap.size w4.heap.size cs4 x) := hin4
  obtain ⟨m1, m2, gsa, l, c, gld, C, gbk, E, rfl, _, _, _, _⟩ := hin4
  unfold whole
  have hb : Below w4.heap.size w4 (w4.alloc (.cells #[.slice (some ⟨gsa, 0, none⟩) x.san x.san, .slice (some ⟨gld, 0, none⟩) x.ldn x.ldn, .slice (some ⟨gbk, 0, none⟩) x.bkn x.bkn] 33)) := push (Below.refl _ _) _
  have X := heap_alloc_new w4 (.cells #[.slice (some ⟨gsa, 0, none⟩) x.san x.san, .slice (some ⟨gld, 0, none⟩) x.ldn x.ldn, .slice (some ⟨gbk, 0, none⟩) x.bkn x.bkn] 33)
  have IN : Off.In (w4.alloc (.cells #[.slice (some ⟨gsa, 0, none⟩) x.san x.san, .slice (some ⟨gld, 0, none⟩) x.ldn x.ldn, .slice (some ⟨gbk, 0, none⟩) x.bkn x.bkn] 33)) w3.heap.size w4.heap.size [.slice (some ⟨gsa, 0, none⟩) x.san x.san, .slice (some ⟨gld, 0, none⟩) x.ldn x.ldn, .slice (some ⟨gbk, 0, none⟩) x.bkn x.bkn] x := HIN4.out.below hb
  have HS5 : Hid (w4.heap.size < (w4.alloc (.cells #[.slice (some ⟨gsa, 0, none⟩) x.san x.san, .slice (some ⟨gld, 0, none⟩) x.ldn x.ldn, .slice (some ⟨gbk, 0, none⟩) x.bkn x.bkn] 33)).heap.size) := by show w4.heap.size < (w4.alloc (.cells #[.slice (some ⟨gsa, 0, none⟩) x.san x.san, .slice (some ⟨gld, 0, none⟩) x.ldn x.ldn, .slice (some ⟨gbk, 0, none⟩) x.bkn x.bkn] 33)).heap.size; simp
  replace A := blk_below A hb
  replace HB := after HB hb
  replace vw := own_below hb vw
  clear hb HIN4
  go_wp2_with fail
  generalize w4.alloc (.cells #[.slice (some ⟨gsa, 0, none⟩) x.san x.san, .slice (some ⟨gld, 0, none⟩) x.ldn x.ldn, .slice (some ⟨gbk, 0, none⟩) x.bkn x.bkn] 33) = w5 at A HB X IN vw HS5 ⊢
  refine (implMan_any [.slice (some ⟨gsa, 0, none⟩) x.san x.san, .slice (some ⟨gld, 0, none⟩) x.ldn x.ldn, .slice (some ⟨gbk, 0, none⟩) x.bkn x.bkn] x z _ HT.out (IN.is HT.out)).mono ?_
  rintro e w6 ⟨hu, hb⟩
  obtain ⟨g1, rfl, vg⟩ := HU.out _ _ _ hu
  clear hu
  have HS6 : Hid (w5.heap.size ≤ w6.heap.size) := hb.size
  replace A := blk_below A hb
  replace X := blk_below X hb
  replace HB := after HB hb
  replace IN := IN.below hb
  replace vw := own_below hb vw
  clear hb
  obtain ⟨ag, cg, rfl, _⟩ := own_form vg
  have HGL : Hid (∀ b, (Value.slice ag N cg).ownBlock = some b → w5.heap.size ≤ b) := fun b hb => (World.ownsRow.lt vg b hb).1
  go_wp2_with fail
  refine (eqRowS_same ag aw N cg cw F _ (by omega) (rows_of_own vg) (rows_of_own vw)).mono ?_
  rintro e w72 ⟨rfl, hb⟩
  replace A := blk_below A hb
  replace X := blk_below X hb
  replace HB := after HB hb
  replace IN := IN.below hb
  replace vw := own_below hb vw
  replace vg := own_below hb vg
  clear hb
  have hne : (ok != ok) = false := by simp
  go_upto_region 10 with fail
  have KS : Hid (∀ w', Below w72.heap.size w72 w' → ((w'.cell? ⟨w.heap.size, 0, none⟩ = some (.slice asa x.san csa) ∧ w'.cell? ⟨w.heap.size, 1, none⟩ = some (.slice ald x.ldn cld) ∧ w'.cell? ⟨w.heap.size, 2, none⟩ = some (.slice abk x.bkn cbk)) ∧ (w'.cell? ⟨w4.heap.size, 0, none⟩ = some (.slice (some ⟨gsa, 0, none⟩) x.san x.san) ∧ w'.cell? ⟨w4.heap.size, 1, none⟩ = some (.slice (some ⟨gld, 0, none⟩) x.ldn x.ldn) ∧ w'.cell? ⟨w4.heap.size, 2, none⟩ = some (.slice (some ⟨gbk, 0, none⟩) x.bkn x.bkn)))) := fun w' h => by
    have g1 := blk_below A h
    have g2 := blk_below X h
    exact ⟨⟨blk_cell g1 0 _ rfl, blk_cell g1 1 _ rfl, blk_cell g1 2 _ rfl⟩, ⟨blk_cell g2 0 _ rfl, blk_cell g2 1 _ rfl, blk_cell g2 2 _ rfl⟩⟩
  have BW : Hid (∀ w', Below w72.heap.size w72 w' → Below w.heap.size w w') := fun w' h => after HB h
  have HIN : Hid (∀ w', Below w72.heap.size w72 w' → Off.Is w' [.slice (some ⟨gsa, 0, none⟩) x.san x.san, .slice (some ⟨gld, 0, none⟩) x.ldn x.ldn, .slice (some ⟨gbk, 0, none⟩) x.bkn x.bkn] x) := fun w' h => (IN.is HT.out).below h
  go_region_held3 (fun w' => (w'.cell? ⟨w.heap.size, 0, none⟩ = some (.slice asa x.san csa) ∧ w'.cell? ⟨w.heap.size, 1, none⟩ = some (.slice ald x.ldn cld) ∧ w'.cell? ⟨w.heap.size, 2, none⟩ = some (.slice abk x.bkn cbk)) ∧ (w'.cell? ⟨w4.heap.size, 0, none⟩ = some (.slice (some ⟨gsa, 0, none⟩) x.san x.san) ∧ w'.cell? ⟨w4.heap.size, 1, none⟩ = some (.slice (some ⟨gld, 0, none⟩) x.ldn x.ldn) ∧ w'.cell? ⟨w4.heap.size, 2, none⟩ = some (.slice (some ⟨gbk, 0, none⟩) x.bkn x.bkn)))
    ((refine KS.out _ ?_; exact (by repeat (first | exact Below.refl _ _ | refine Below.drew ?_ | refine after ?_ hb9 | refine after ?_ hb8))))
    (first | (go_at_call 8; refine Calls.mono (toOffice_any [.slice asa x.san csa, .slice ald x.ldn cld, .slice abk x.bkn cbk] x _ HT.out (HI.out.below (BW.out _ (by repeat (first | exact Below.refl _ _ | refine Below.drew ?_ | refine after ?_ hb9 | refine after ?_ hb8))))) ?_; rintro e w8 ⟨cs8, rfl, hin8, hb8⟩) | (go_at_call 10; refine Calls.mono (eqOffice_same [.slice (some ⟨gsa, 0, none⟩) x.san x.san, .slice (some ⟨gld, 0, none⟩) x.ldn x.ldn, .slice (some ⟨gbk, 0, none⟩) x.bkn x.bkn] cs8 x _ HT.out (HIN.out _ (by repeat (first | exact Below.refl _ _ | refine Below.drew ?_ | refine after ?_ hb9 | refine after ?_ hb8))) ((hin8.is HT.out).below (by repeat (first | exact Below.refl _ _ | refine Below.drew ?_ | refine after ?_ hb9 | refine after ?_ hb8)))) ?_; rintro e w9 ⟨rfl, hb9⟩))
  have hb : Below w72.heap.size w72 w9 := (by repeat (first | exact Below.refl _ _ | refine Below.drew ?_ | refine after ?_ hb9 | refine after ?_ hb8))
  clear hin8 hb8 hb9 KS BW HIN
  replace A := blk_below A hb
  replace X := blk_below X hb
  replace HB := after HB hb
  replace IN := IN.below hb
  replace vw := own_below hb vw
  replace vg := own_below hb vg
  clear hb
  have x0 := blk_cell X 0 _ rfl
  have x1 := blk_cell X 1 _ rfl
  have x2 := blk_cell X 2 _ rfl
  go_wp2_with fail
  have HS9 : Hid (w.heap.size < w3.heap.size) := by have := HAW.out; have := HS1.out; have := HS2.out; have := HS3.out; show w.heap.size < w3.heap.size; omega
  refine (markOffice_own [.slice (some ⟨gsa, 0, none⟩) x.san x.san, .slice (some ⟨gld, 0, none⟩) x.ldn x.ldn, .slice (some ⟨gbk, 0, none⟩) x.bkn x.bkn] x w3.heap.size w4.heap.size w9 HT.out IN (by have := blk_lt X; omega)).mono ?_
  rintro e w10 ⟨⟨k, rfl⟩, kp⟩
  clear x0 x1 x2
  have HKX : Hid (∀ b, (w3.heap.size ≤ b ∧ b < w4.heap.size) → w3.heap.size ≤ b ∧ b < w4.heap.size) := fun b h => h
  replace A := kp.blk A (fun e => by have := HKX.out _ e; have := HS9.out; omega)
  replace HB := Kept.below HB HB.size kp (fun b e => by have := HKX.out _ e; have := HS9.out; omega)
  replace vw := kp.own vw (fun b hb e => by have := HKX.out _ e; have := HWL.out b hb; omega)
  replace vg := kp.own vg (fun b hb e => by have := HKX.out _ e; have := HGL.out b hb; have := HS5.out; omega)
  clear kp IN X
  have dk : decide ((k : Int) < 0) = false := by simp
  go_wp2_with fail
  refine (eqRowS_same ag aw N cg cw F _ (by omega) (rows_of_own vg) (rows_of_own vw)).mono ?_
  rintro e w112 ⟨rfl, hb⟩
  replace A := blk_below A hb
  replace HB := after HB hb
  replace vw := own_below hb vw
  replace vg := own_below hb vg
  clear hb
  go_wp2_with fail
  refine (markRowS_own ag N cg _ 1 F _ (by omega) (by omega) vg).mono ?_
  rintro e w12 ⟨rfl, vm, kp⟩
  replace A := kp.blk A (fun e => by have := HGL.out _ e; have := HS9.out; have := HS4.out; have := HS5.out; omega)
  replace HB := Kept.below HB HB.size kp (fun b e => by have := HGL.out _ e; have := HS9.out; have := HS4.out; have := HS5.out; omega)
  replace vw := kp.own vw (fun b hb e => by have := HGL.out _ e; have := HWL.out b hb; have := HS4.out; have := HS5.out; omega)
  clear kp vg
  obtain ⟨m, hm⟩ : ∃ m : Nat, m = 1 + 5 * N := ⟨_, rfl⟩
  have HM : Hid (m = 1 + 5 * N) := hm
  rw [← hm]
  clear hm
  have dm : decide ((m : Int) < 0) = false := by simp
  go_wp2_with fail
  refine (heldRowS_yes ag N cg 1 _ (by omega) (by omega) (rows_of_own vm)).mono ?_
  rintro e w130 ⟨rfl, hb⟩
  rw [← HM.out]
  replace A := blk_below A hb
  replace HB := after HB hb
  replace vw := own_below hb vw
  replace vm := own_below hb vm
  clear hb
  have q0 := blk_cell A 0 _ rfl
  have q1 := blk_cell A 1 _ rfl
  have q2 := blk_cell A 2 _ rfl
  go_wp2_with fail
  refine (toOffice_any [.slice asa x.san csa, .slice ald x.ldn cld, .slice abk x.bkn cbk] x _ HT.out (HI.out.below HB)).mono ?_
  rintro e w14 ⟨cs14, rfl, hin, hb⟩
  clear q0 q1 q2
  replace A := blk_below A hb
  replace HB := after HB hb
  replace vw := own_below hb vw
  replace vm := own_below hb vm
  clear hb
  have is14 := hin.is HT.out
  clear hin
  go_wp2_with fail
  refine (implMan_any cs14 x z _ HT.out is14).mono ?_
  rintro e w15 ⟨hu, hb⟩
  obtain ⟨k1, rfl, vk⟩ := HU.out _ _ _ hu
  clear hu is14
  replace A := blk_below A hb
  replace HB := after HB hb
  replace vw := own_below hb vw
  replace vm := own_below hb vm
  clear hb
  obtain ⟨ak, ck, rfl, _⟩ := own_form vk
  go_wp2_with fail
  refine (eqRowS_same ak aw N ck cw F _ (by omega) (rows_of_own vk) (rows_of_own vw)).mono ?_
  rintro e w162 ⟨rfl, hb⟩
  replace A := blk_below A hb
  replace HB := after HB hb
  replace vw := own_below hb vw
  replace vm := own_below hb vm
  replace vk := own_below hb vk
  clear hb
  go_wp2_with fail
  refine (heldRowS_yes ag N cg 1 _ (by omega) (by omega) (rows_of_own vm)).mono ?_
  rintro e w131 ⟨rfl, hb⟩
  rw [← HM.out]
  replace A := blk_below A hb
  replace HB := after HB hb
  replace vw := own_below hb vw
  replace vm := own_below hb vm
  clear hb
  go_wp2
  go_ret
  exact ⟨rfl, HB⟩

end Go.Proofs.YtlnadbnoemlpeaaGreat
