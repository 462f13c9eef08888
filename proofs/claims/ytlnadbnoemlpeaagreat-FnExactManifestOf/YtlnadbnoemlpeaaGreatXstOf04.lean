/-
  OWN TEXT: ManI, MarkStay.
-/
import Derived.Test.YtlnadbnoemlpeaaGreatXstOf03
import Derived.Test.YtlnadbnoemlpeaaGreatB26
import Derived.Test.YtlnadbnoemlpeaaGreatB03
namespace Go.Proofs.YtlnadbnoemlpeaaGreat
open Go.RowKit Classical

theorem manU_yes {x : Off} {z : Int} {k base tr : Nat} {v : Value} {w : World} (ho : OffOk x) (hk : findIx x.sa z x.san = k) (hlt : k < x.san) (h : w.ownsRow base tr 5 v (rowsL (x.ld k) x.bk (x.sa k).id x.bkn).length (rowList (nthR (rowsL (x.ld k) x.bk (x.sa k).id x.bkn)) (rowsL (x.ld k) x.bk (x.sa k).id x.bkn).length)) :
    ManU x z base tr (.returned (.tuple #[v, .bool true])) w := by
  have hl : LOk x z := ⟨ho, by rw [hk]; exact hlt⟩
  have hid : (x.sa k).id = z := by rw [← hk]; exact findIx_at x.sa z x.san (by rw [hk]; exact hlt)
  refine ⟨v, by unfold lOk; simp [hl], ?_⟩
  unfold manL
  rw [if_pos hl, hk]
  rw [hid] at h
  exact h

set_option maxHeartbeats 3200000 in
set_option maxRecDepth 100000 in
theorem implMan_any (cs : List Value) (x : Off) (z : Int) (w : World) (hs : Off.Short x 1048576) (h : Off.Is w cs x) :
    Calls Tryz.prog 12 #[.agg cs.toArray, .int .i64 z] w fun e w' => ManU x z w.heap.size 89 e w' ∧ Below w.heap.size w w' := by
  obtain ⟨asa, csa, ald, cld, abk, cbk, rfl, hsa, _, hld, _, hbk, sbk⟩ := h
  have HSA : Hid (SailsAt w asa x.san x.sa) := hsa
  have HLD : Hid (LoadsAt w ald x.ldn x.ld) := hld
  have HBK : Hid (BooksAt w abk x.bkn x.bk) := hbk
  have HSH : Hid (Off.Short x 1048576) := hs
  have HCB : Hid (x.bkn ≤ cbk) := sbk.1
  have n1 : x.san ≤ 1048576 := hs.1.1
  clear hsa hld hbk hs sbk
  have hb0 : Below w.heap.size w (w.alloc (.cells #[.slice asa x.san csa, .slice ald x.ldn cld, .slice abk x.bkn cbk] 33)) := push (Below.refl _ _) _
  have bO := heap_alloc_new w (.cells #[.slice asa x.san csa, .slice ald x.ldn cld, .slice abk x.bkn cbk] 33)
  go_enter Tryz.func12, Tryz.ntmps12
  go_wp2_with fail
  generalize w.alloc (.cells #[.slice asa x.san csa, .slice ald x.ldn cld, .slice abk x.bkn cbk] 33) = V0 at hb0 bO ⊢
  refine (findSailing_any asa x.san csa x.sa z _ n1 (HSA.out.below hb0)).mono ?_
  rintro e V ⟨hr, hbv⟩
  have bO1 := blk_below bO hbv
  have hb1 := after hb0 hbv
  clear hb0 bO hbv V0
  rcases hr with ⟨hk, rfl⟩ | ⟨hk, rfl⟩
  case inr =>
    have HN : Hid (¬ (OffOk x ∧ findIx x.sa z x.san < x.san)) := fun h => by have := h.2; omega
    clear hk
    go_wp2
    exact bodyPost_ret (v := .tuple #[.slice none 0 0, .bool false]) (by simp [results, Tryz.results12, go_sem]) rfl ⟨manU_no HN.out, hb1⟩
  obtain ⟨k, hkd⟩ : ∃ k, findIx x.sa z x.san = k := ⟨_, rfl⟩
  rw [hkd] at hk ⊢
  have HKD : Hid (findIx x.sa z x.san = k) := hkd
  have HLT : Hid (k < x.san) := hk
  clear hkd hk
  have z0 := blk_cell bO1 0 _ rfl
  have z1 := blk_cell bO1 1 _ rfl
  have z2 := blk_cell bO1 2 _ rfl
  go_wp2_with fail
  refine (implOff_raw x asa ald abk csa cld cbk _ HSH.out (HSA.out.below hb1) (HLD.out.below hb1) (HBK.out.below hb1) HCB.out).mono ?_
  rintro e V2 ⟨⟨t0, rfl, ht0⟩, hbv⟩
  have HT0 : Hid (t0 = true ↔ OffOk x) := ht0
  have bO2 := blk_below bO1 hbv
  have hb2 := after hb1 hbv
  clear ht0 hb1 bO1 hbv z0 z1 z2
  cases t0 with
  | false =>
    have HN : Hid (¬ (OffOk x ∧ findIx x.sa z x.san < x.san)) := fun h => by have := HT0.out.2 h.1; cases this
    go_wp2
    exact bodyPost_ret (v := .tuple #[.slice none 0 0, .bool false]) (by simp [results, Tryz.results12, go_sem]) rfl ⟨manU_no HN.out, hb2⟩
  | true =>
  have HOK : Hid (OffOk x) := HT0.out.1 rfl
  clear HT0
  have z0 := blk_cell bO2 0 _ rfl
  have z1 := blk_cell bO2 1 _ rfl
  have z2 := blk_cell bO2 2 _ rfl
  go_wp2_with fail
  refine (rowsOf_raw x asa ald abk csa cld cbk k _ HSH.out (HSA.out.below hb2) (HLD.out.below hb2) (HBK.out.below hb2) HOK.out.2.2.1 HLT.out HOK.out.2.1 (HOK.out.2.2.2.1 k HLT.out)).mono ?_
  rintro e V3 ⟨⟨v, rfl, ho⟩, hbv⟩
  have HO : Hid _ := ho
  clear z0 z1 z2 bO2 ho
  go_wp2
  exact bodyPost_ret (v := .tuple #[v, .bool true]) (by simp [results, Tryz.results12, go_sem]) rfl ⟨manU_yes HOK.out HKD.out HLT.out (own_base HO.out hb2.size), after hb2 hbv⟩

end Go.Proofs.YtlnadbnoemlpeaaGreat

namespace Go.Proofs.YtlnadbnoemlpeaaGreat
open Go.RowKit

/-- What is marked at place t from the number k0 on. -/
def stayMark (k0 : Int) (t : Nat) : Stay := ⟨k0 + 4 * t, k0 + 4 * t + 1, k0 + 4 * t + 2, k0 + 4 * t + 3⟩

set_option maxHeartbeats 1600000 in
set_option maxRecDepth 100000 in
theorem markStayS_own (ao : Option Addr) (n c base : Nat) (S : Nat → Stay) (k0 : Int) (w : World) (hn : n ≤ 2097152) (h0 : 0 ≤ k0) (h1 : k0 ≤ 1000000000000000) (ho : w.ownsRow base 118 4 (.slice ao n c) n (stayList S n)) :
    Calls Tryz.prog 98 #[.slice ao n c, .int .i64 k0] w fun e w' => e = .returned (.int .i64 (k0 + 4 * n)) ∧ w'.ownsRow base 118 4 (.slice ao n c) n (stayList (stayMark k0) n) ∧ Kept w w' (fun b => (Value.slice ao n c).ownBlock = some b) := by
  go_enter Tryz.func98, Tryz.ntmps98
  go_wp2
  go_loopw [1, 5] (fun q i wr => ∃ (t : Nat), t ≤ n ∧ i = .int .i64 t ∧ q = .int .i64 (k0 + 4 * t) ∧ wr.ownsRow base 118 4 (.slice ao n c) n ((List.range (n * 4)).map (stayCell (fun i => if i < t then stayMark k0 i else S i))) ∧ Kept w wr (fun b => (Value.slice ao n c).ownBlock = some b)) (fun _ i _ => n - (intOf i).toNat)
  case atStart => exact ⟨0, Nat.zero_le _, rfl, by simp, by simpa [stayList] using ho, Kept.refl _ _⟩
  case round =>
    obtain ⟨t, ht, rfl, rfl, hown, hk⟩ := hrel
    by_cases hlt : t < n
    · obtain ⟨g, rfl, hg1, hg2⟩ := own_addr hown (by omega)
      have hc0 := own_cell hown (t * 4) (by omega) rfl
      have hf0 := hown.frozenAt (t * 4)
      rw [stayCell_0] at hc0
      have hc1 := own_cell hown (t * 4 + 1) (by omega) rfl
      have hf1 := hown.frozenAt (t * 4 + 1)
      rw [stayCell_1] at hc1
      have hc2 := own_cell hown (t * 4 + 2) (by omega) rfl
      have hf2 := hown.frozenAt (t * 4 + 2)
      rw [stayCell_2] at hc2
      have hc3 := own_cell hown (t * 4 + 3) (by omega) rfl
      have hf3 := hown.frozenAt (t * 4 + 3)
      rw [stayCell_3] at hc3
      go_wp2
      go_roundw
      case rel =>
        refine ⟨t + 1, by omega, by go_num, by go_num, own_congr (own_store (own_store (own_store (own_store hown (t * 4) _) (t * 4 + 1) _) (t * 4 + 2) _) (t * 4 + 3) _) (fun j hj => ?_), ((((hk.set (a := ⟨g, t * 4, none⟩) rfl _).set (a := ⟨g, t * 4 + 1, none⟩) rfl _).set (a := ⟨g, t * 4 + 2, none⟩) rfl _).set (a := ⟨g, t * 4 + 3, none⟩) rfl _)⟩
        have key : ∀ (S' : Nat → Stay), (∀ i, i ≠ t → S' i = (if i < t then stayMark k0 i else S i)) → (S' t = stayMark k0 t) → stayCell S' j = stayCell (fun i => if i < t + 1 then stayMark k0 i else S i) j := by
          intro S' h1 h2
          unfold stayCell
          have : S' (j / 4) = (if j / 4 < t + 1 then stayMark k0 (j / 4) else S (j / 4)) := by
            by_cases e : j / 4 = t
            · rw [e, h2, if_pos (by omega)]
            · rw [h1 _ e]
              by_cases e2 : j / 4 < t
              · rw [if_pos e2, if_pos (by omega)]
              · rw [if_neg e2, if_neg (by omega)]
          rw [this]
        rw [← key (fun i => if i = t then stayMark k0 t else if i < t then stayMark k0 i else S i) (fun i h => if_neg h) (if_pos rfl)]
        by_cases h3 : j = t * 4 + 3
        · subst h3; rw [if_pos rfl, stayCell_3, if_pos rfl]; simp [stayMark]; try omega
        rw [if_neg h3]
        by_cases h2 : j = t * 4 + 2
        · subst h2; rw [if_pos rfl, stayCell_2, if_pos rfl]; simp [stayMark]; try omega
        rw [if_neg h2]
        by_cases h1 : j = t * 4 + 1
        · subst h1; rw [if_pos rfl, stayCell_1, if_pos rfl]; simp [stayMark]; try omega
        rw [if_neg h1]
        by_cases h0 : j = t * 4
        · subst h0; rw [if_pos rfl, stayCell_0, if_pos rfl]; simp [stayMark]; try omega
        rw [if_neg h0]
        have hne : j / 4 ≠ t := by omega
        unfold stayCell
        simp only [if_neg hne]
      case measure => simp [intOf]; omega
    · obtain rfl : t = n := by omega
      go_wp2
      go_ret
      refine ⟨rfl, ?_, hk⟩
      rw [stayList_congr (S := stayMark k0) (S' := fun i => if i < t then stayMark k0 i else S i) (fun i hi => (if_pos hi).symm)]
      exact hown

end Go.Proofs.YtlnadbnoemlpeaaGreat
