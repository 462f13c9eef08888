/-
  OWN TEXT: CycA, LeaveI.
-/
import Derived.Deep.LoopGhost
import Derived.Deep.RegionLawGrows
import Derived.Test.YtdmkpflphjemoaaB38
import Derived.Test.YtdmkpflphjemoaaB21
import Derived.Test.YtdmkpflphjemoaaB15
import Derived.Test.YtdmkpflphjemoaaB27
import Derived.Test.YtdmkpflphjemoaaB12
namespace Go.Proofs.Ytdmkpflphjemoaa
open Go.RowKit

theorem cycAns_one {N : Nat} {K : Nat → Int} {H Q : Nat → Line} {b b' ok ok' : Bool} (h : CycAns (GoodL N K H Q) b ok) (h' : CycAns (GoodI N K H Q) b' ok') : b' = b ∧ ok' = ok := by
  obtain ⟨rfl, h1⟩ := h
  obtain ⟨rfl, h2⟩ := h'
  refine ⟨rfl, ?_⟩
  have e : ok' = true ↔ ok = true := h2.trans ((goodL_iff N K H Q).symm.trans h1.symm)
  cases ok <;> cases ok' <;> simp_all

set_option maxHeartbeats 800000 in
theorem implCycle_any (ao : Option Addr) (N c : Nat) (K : Nat → Int) (H Q : Nat → Line) (w : World) (hN : N ≤ 1048576) (hs : ShortTo N H Q 1048576) (hx : LocksAt w ao N K H Q) :
    Calls Try.prog 8 #[.slice ao N c] w fun e w' => (∃ b ok, e = .returned (.tuple #[.bool b, .bool ok]) ∧ Hid (CycAns (GoodI N K H Q) b ok)) ∧ Below w.heap.size w w' := by
  have HS : Hid (ShortTo N H Q 1048576) := hs
  clear hs
  go_enter Try.func8, Try.ntmps8
  go_wp2_with fail
  refine (implLocks_any ao N c K H Q _ HS.out (by omega) hx).mono ?_
  rintro e w1 ⟨⟨v, rfl, hv⟩, hb1⟩
  have HV : Hid (v = true ↔ GoodI N K H Q) := hv
  clear hv
  cases v with
  | false =>
    have HG : Hid (¬ GoodI N K H Q) := fun h => by have := HV.out.2 h; cases this
    go_wp2
    exact bodyPost_ret (v := .tuple #[.bool false, .bool false]) (by simp [results, Try.results8, go_sem]) rfl ⟨⟨false, false, rfl, ⟨rfl, ⟨fun h => (by cases h), fun h => absurd h HG.out⟩⟩⟩, hb1⟩
  | true =>
    have HG : Hid (GoodI N K H Q) := HV.out.1 rfl
    clear HV
    go_wp2_with fail
    refine (someWaits_any ao N c K H Q _ hN HS.out HG.out (hx.below hb1)).mono ?_
    rintro e w2 ⟨rfl, hb2⟩
    go_wp2
    exact bodyPost_ret (v := .tuple #[.bool false, .bool true]) (by simp [results, Try.results8, go_sem]) rfl ⟨⟨false, true, rfl, ⟨rfl, ⟨fun _ => HG.out, fun _ => rfl⟩⟩⟩, after hb1 hb2⟩

end Go.Proofs.Ytdmkpflphjemoaa

namespace Go.Proofs.Ytdmkpflphjemoaa
open Go.RowKit

theorem cellsI_get {l : List Int} {w : World} {base e c n : Nat} {ao : Option Addr} (hn : l.length = n) (h : w.ownsRow base e 1 (.slice ao n c) n (cellsI l)) : ∀ ad, ao = some ad → ∀ j u, (cellsI l)[j]? = some u → w.cell? (ad.add j) = some u := by
  intro ad e j u hu
  have hl : (cellsI l).length = n := by rw [← hn]; simp [cellsI, intList]
  have hj : j < n := by rw [← hl]; exact (List.getElem?_eq_some_iff.1 hu).1
  obtain ⟨g, hg, _⟩ := own_addr h (by omega)
  rw [hg] at e
  cases e
  subst hg
  rw [Addr.add_lit, Nat.zero_add, h.cellAt j (by omega)]
  exact hu
theorem cellsI_cat (a b : List Int) : cellsI (a ++ b) = cellsI a ++ cellsI b := by
  induction b generalizing a with
  | nil => simp [cellsI, intList]
  | cons x b ih =>
    have h1 := ih (a ++ [x])
    rw [List.append_assoc, List.singleton_append] at h1
    rw [h1, cellsI_snoc, List.append_assoc]
    congr 1
    have h2 : ∀ c : List Int, cellsI (x :: c) = .int .i64 x :: cellsI c := fun c => by
      unfold cellsI intList
      rw [List.length_cons, List.range_succ_eq_map, List.map_cons, List.map_map]
      congr 1
    rw [h2]; rfl

set_option maxHeartbeats 6400000 in
set_option maxRecDepth 100000 in
theorem leaveLoop_any (ao : Option Addr) (N c : Nat) (K : Nat → Int) (H Q : Nat → Line) (x : Int) (w : World) (hN : N ≤ 1048576) (hs : ShortTo N H Q 1048576) (hz : LocksAt w ao N K H Q) :
    Calls Try.prog 12 #[.slice ao N c, .int .i64 x] w fun e w' => (∃ v1 v2 ls es code, e = .returned (.tuple #[v1, v2, .int .i64 code]) ∧ LocksL w' w.heap.size v1 ls ∧ WaitsIs w' w.heap.size v2 es ∧ Hid (LeaveAns N K H Q x ls es code)) ∧ Below w.heap.size w w' := by
  obtain ⟨i0, ii, iz0, iz1, iz2⟩ := info_parts Try.infoInt
  obtain ⟨j0, ji, jz0, jz1, jz2⟩ := info_parts Try.infoLock
  have HS : Hid (ShortTo N H Q 1048576) := hs
  have HZ : Hid (LocksAt w ao N K H Q) := hz
  clear hs hz
  go_enter Try.func12, Try.ntmps12
  go_wp2_with fail
  refine (implLocks_any ao N c K H Q _ HS.out (by omega) HZ.out).mono ?_
  rintro e w1 ⟨⟨v, rfl, hv⟩, hb1⟩
  have HV : Hid (v = true ↔ GoodI N K H Q) := hv
  clear hv
  cases v with
  | false =>
    have HG : Hid (¬ GoodL N K H Q) := fun h => by have := HV.out.2 ((goodL_iff N K H Q).1 h); cases this
    go_wp2
    exact bodyPost_ret (v := .tuple #[.slice none 0 0, .slice none 0 0, .int .i64 1]) (by simp [results, Try.results12, go_sem]) rfl ⟨⟨_, _, [], [], 1, rfl, LocksL.nil _ _, WaitsIs.nil _ _, ⟨fun _ => ⟨rfl, rfl, rfl⟩, fun h => absurd h HG.out, fun h => absurd h HG.out⟩⟩, hb1⟩
  | true =>
    have HG : Hid (GoodI N K H Q) := HV.out.1 rfl
    have HGL : Hid (GoodL N K H Q) := (goodL_iff N K H Q).2 HG.out
    clear HV
    by_cases ht : isTask x
    · have HT : Hid (isTask x) := ht
      go_wp2_with (first | (go_at_call 20; refine (isTask_yes _ _ ht).mono ?_; rintro e w' ⟨rfl, hw'⟩; have hw1 := hw'.symm; subst hw1))
      clear ht
      go_loopg [7, 8, 23] N (fun g v7 v8 i wr => ∃ (k : Nat) (hv qv : Nat → Value), k ≤ N ∧ g = N - k ∧ i = .int .i64 k ∧ LocksOwn wr w.heap.size (leaveTo K H Q x k).length v7 (keyF (leaveTo K H Q x k)) (heldF (leaveTo K H Q x k)) (queueF (leaveTo K H Q x k)) hv qv ∧ WaitsIs wr w.heap.size v8 (entTo H Q x k) ∧ Below w.heap.size w wr)
      case atStart => exact ⟨0, fun _ => .slice none 0 0, fun _ => .slice none 0 0, Nat.zero_le _, rfl, rfl, LocksOwn.nil _ _ _ _ _ _ _, WaitsIs.nil _ _, hb1⟩
      case round =>
        obtain ⟨k, hv, qv, hk, rfl, rfl, hL, hE, hbel⟩ := hrel
        obtain ⟨av, cv, rfl, _⟩ := own_form hL.row
        obtain ⟨ae, ce, rfl, _⟩ := own_form hE
        have HLN := leaveTo_length K H Q x k
        have HEN := entTo_few (x := x) HGL.out k hk
        have h60 := HGL.out.1
        generalize hls : leaveTo K H Q x k = ls at *
        generalize hes : entTo H Q x k = es at *
        have HLS : Hid (leaveTo K H Q x k = ls) := hls
        have HES : Hid (entTo H Q x k = es) := hes
        clear hls hes
        by_cases hlt : k < N
        · obtain ⟨b, off, ha, hc, qa, qc, rfl, h0, h1, h2, h3, h4, h5, h6⟩ := HZ.out k hlt
          have hb := World.block_lt_of_cell? w _ h0
          have d0 := (hbel.cell (p := ⟨b, off + k * 3, none⟩) hb).trans h0
          have d1 := (hbel.cell (p := ⟨b, off + k * 3 + 1, none⟩) hb).trans h1
          have d2 := (hbel.cell (p := ⟨b, off + k * 3 + 2, none⟩) hb).trans h2
          have s1 := (HS.out k hlt).1
          have s2 := (HS.out k hlt).2
          have HH : Hid (LineAt w ha (H k)) := h3
          have HQ : Hid (LineAt w qa (Q k)) := h4
          have HL : Hid (LocksOwn wr w.heap.size ls.length (.slice av ls.length cv) (keyF ls) (heldF ls) (queueF ls) hv qv) := hL
          have HE : Hid (WaitsIs wr w.heap.size (.slice ae es.length ce) es) := hE
          have HB : Hid (Below w.heap.size w wr) := hbel
          clear h0 h1 h2 h3 h4 h5 h6 hL hE
          have hp : Below wr.heap.size wr (wr.alloc (.cells #[.int .i64 (K k), .slice ha (H k).n hc, .slice qa (Q k).n qc] 60)) := push (Below.refl _ _) _
          have bX := heap_alloc_new wr (.cells #[.int .i64 (K k), .slice ha (H k).n hc, .slice qa (Q k).n qc] 60)
          go_upto_region 10 with fail
          generalize wr.alloc (.cells #[.int .i64 (K k), .slice ha (H k).n hc, .slice qa (Q k).n qc] 60) = X at hp bX ⊢
          have HX : Hid (Below wr.heap.size wr X ∧ wr.heap.size < X.heap.size) := ⟨hp, blk_lt bX⟩
          have KB : Hid (∀ w', Below X.heap.size X w' → w'.heap[wr.heap.size]? = some (.cells #[.int .i64 (K k), .slice ha (H k).n hc, .slice qa (Q k).n qc] 60 (0, 0))) := fun w' h => blk_below bX h
          obtain ⟨l1, hl1⟩ : ∃ l1, l1 = lessTo (H k) x (H k).n := ⟨_, rfl⟩
          obtain ⟨l2, hl2⟩ : ∃ l2, l2 = lessTo (Q k) x (Q k).n := ⟨_, rfl⟩
          have HC1 : Hid (∀ w', Below X.heap.size X w' → Calls Try.prog 40 #[.slice ha (H k).n hc, .int .i64 x] w' fun e w2 => (∃ a c, e = .returned (.slice a l1.length c) ∧ AsksIs w2 w'.heap.size (.slice a l1.length c) l1) ∧ Below w'.heap.size w' w2) := fun w' h => (without_any ha (H k).n hc (H k) x w' rfl s1 (HH.out.below (after HB.out (after HX.out.1 h)))).mono fun _ _ ⟨⟨v, e, ho⟩, hb⟩ => by
            rw [← hl1] at ho
            obtain ⟨a, c, rfl, _⟩ := own_form ho
            exact ⟨⟨a, c, e, ho⟩, hb⟩
          have HC2 : Hid (∀ w', Below X.heap.size X w' → Calls Try.prog 40 #[.slice qa (Q k).n qc, .int .i64 x] w' fun e w2 => (∃ a c, e = .returned (.slice a l2.length c) ∧ AsksIs w2 w'.heap.size (.slice a l2.length c) l2) ∧ Below w'.heap.size w' w2) := fun w' h => (without_any qa (Q k).n qc (Q k) x w' rfl s2 (HQ.out.below (after HB.out (after HX.out.1 h)))).mono fun _ _ ⟨⟨v, e, ho⟩, hb⟩ => by
            rw [← hl2] at ho
            obtain ⟨a, c, rfl, _⟩ := own_form ho
            exact ⟨⟨a, c, e, ho⟩, hb⟩
          have HLT : Hid (leftOf H Q x k = letP l1 l2) := by show leftOf H Q x k = letP l1 l2; rw [hl1, hl2]; rfl
          have hll : l1.length + l2.length ≤ 12 := by
            have h1 := good_lines HG.out hlt
            have h2 := lessTo_length (H k) x (H k).n
            have h3 := lessTo_length (Q k) x (Q k).n
            rw [hl1, hl2]
            omega
          clear hl1 hl2
          have x0 := blk_cell bX 0 _ rfl
          have x1 := blk_cell bX 1 _ rfl
          have x2 := blk_cell bX 2 _ rfl
          clear d0 d1 d2 hp bX hbel
          go_cut [7, 8, 10, 23] (fun p7 p8 p10 p23 wx => p7 = .slice av ls.length cv ∧ p8 = .slice ae es.length ce ∧ p10 = .pointer (some ⟨wr.heap.size, 0, none⟩) ∧ p23 = .int .i64 k ∧ ∃ a4 c4 a5 c5, wx.heap[wr.heap.size]? = some (.cells #[.int .i64 (K k), .slice a4 l1.length c4, .slice a5 l2.length c5] 60 (0, 0)) ∧ AsksIs wx X.heap.size (.slice a4 l1.length c4) l1 ∧ AsksIs wx X.heap.size (.slice a5 l2.length c5) l2 ∧ (∀ b, (Value.slice a4 l1.length c4).ownBlock = some b → (Value.slice a5 l2.length c5).ownBlock ≠ some b) ∧ Kept X wx (fun b => b = wr.heap.size))
          case first =>
            have hXw := HX.out.2
            go_region_with (first
              | (go_at_call 40; (with_reducible refine Calls.mono (HC1.out _ ?_) ?_); (focus (repeat (first | exact Below.refl _ _ | refine Below.drew ?_ | refine after ?_ hb4 | refine after ?_ hb5))); rintro e w4 ⟨⟨a4, c4, rfl, ho4⟩, hb4⟩; have z4 := KB.out w4 (by repeat (first | exact Below.refl _ _ | refine Below.drew ?_ | refine after ?_ hb4 | refine after ?_ hb5)); have o1 := blk_cell z4 1 _ rfl; have o2 := blk_cell z4 2 _ rfl; have f1 := blk_free z4 1; have f2 := blk_free z4 2; have HO4 : Hid (AsksIs w4 X.heap.size (.slice a4 l1.length c4) l1) := own_base ho4 (by first | exact Nat.le_refl _ | simp | omega); have HS4 : Hid (X.heap.size ≤ w4.heap.size) := Nat.le_trans (by first | exact Nat.le_refl _ | simp) hb4.size; clear ho4)
              | (go_at_call 40; (with_reducible refine Calls.mono (HC2.out _ ?_) ?_); (focus (repeat (first | exact Below.refl _ _ | refine Below.drew ?_ | refine after ?_ hb4 | refine after ?_ hb5))); rintro e w5 ⟨⟨a5, c5, rfl, ho5⟩, hb5⟩; have z5 := KB.out w5 (by repeat (first | exact Below.refl _ _ | refine Below.drew ?_ | refine after ?_ hb4 | refine after ?_ hb5)); have p1 := blk_cell z5 1 _ rfl; have p2 := blk_cell z5 2 _ rfl; have g1 := blk_free z5 1; have g2 := blk_free z5 2; have HO5 : Hid (AsksIs w5 w4.heap.size (.slice a5 l2.length c5) l2) := own_base ho5 (by first | exact Nat.le_refl _ | simp | omega); clear ho5))
            all_goals
              go_wp2
              go_meet
              refine ⟨rfl, rfl, rfl, rfl, a4, c4, a5, c5, heap_setCell_same _ _ 2 _ _ _ (heap_setCell_same _ _ 1 _ _ _ z5), own_set (own_set (own_below (w := w4) (by repeat (first | exact Below.refl _ _ | refine Below.drew ?_ | refine after ?_ hb5)) HO4.out) (a := ⟨wr.heap.size, 1, none⟩) hXw _) (a := ⟨wr.heap.size, 2, none⟩) hXw _, own_set (own_set (own_base HO5.out HS4.out) (a := ⟨wr.heap.size, 1, none⟩) hXw _) (a := ⟨wr.heap.size, 2, none⟩) hXw _, fun b e1 e2 => by have := (World.ownsRow.lt HO4.out b e1).2; have := (World.ownsRow.lt HO5.out b e2).1; omega, ?_⟩
              exact ((Kept.of_below (w := X) (w' := w5) (S := fun b => b = wr.heap.size) (by repeat (first | exact Below.refl _ _ | refine Below.drew ?_ | refine after ?_ hb4 | refine after ?_ hb5))).set (a := ⟨wr.heap.size, 1, none⟩) rfl _).set (a := ⟨wr.heap.size, 2, none⟩) rfl _
          case rest =>
            obtain ⟨rfl, rfl, rfl, rfl, a4, c4, a5, c5, bY, oh, oq, hap, hk⟩ := hcut
            have hXw := HX.out.2
            have hY : Below wr.heap.size wr wc := Kept.below HX.out.1 HX.out.1.size hk (fun b e => by have e : b = wr.heap.size := e; omega)
            have z0 := blk_cell bY 0 _ rfl
            have z1 := blk_cell bY 1 _ rfl
            have z2 := blk_cell bY 2 _ rfl
            have HO : Hid (AsksIs wc X.heap.size (.slice a4 l1.length c4) l1 ∧ AsksIs wc X.heap.size (.slice a5 l2.length c5) l2 ∧ (∀ b, (Value.slice a4 l1.length c4).ownBlock = some b → (Value.slice a5 l2.length c5).ownBlock ≠ some b)) := ⟨oh, oq, hap⟩
            have HY : Hid (Below wr.heap.size wr wc ∧ X.heap.size ≤ wc.heap.size) := ⟨hY, hk.size⟩
            clear oh oq hap hY hk x0 x1 x2 bY KB HC1 HC2
            go_wp2_with fail
            refine (letIn_any (K k) (.slice a4 l1.length c4) (.slice a5 l2.length c5) X.heap.size l1 l2 wc (by omega) HO.out.1 HO.out.2.1 HO.out.2.2 HY.out.2).mono ?_
            rintro e w6 ⟨vh, vq, ve, rfl, oh6, oq6, oe6, hap6, hk6⟩
            clear z0 z1 z2
            have hl3 := letP_len l2 l1
            rw [← HLT.out] at oh6 oq6 oe6 hl3
            obtain ⟨m1, hm1⟩ : ∃ m, m = (leftOf H Q x k).1 := ⟨_, rfl⟩
            obtain ⟨m2, hm2⟩ : ∃ m, m = (leftOf H Q x k).2.1 := ⟨_, rfl⟩
            obtain ⟨m3, hm3⟩ : ∃ m, m = (leftOf H Q x k).2.2 := ⟨_, rfl⟩
            rw [← hm1] at oh6 hl3
            rw [← hm2] at oq6 hl3
            rw [← hm3] at oe6 hl3
            have HM : Hid (m1 = (leftOf H Q x k).1 ∧ m2 = (leftOf H Q x k).2.1 ∧ m3 = (leftOf H Q x k).2.2) := ⟨hm1, hm2, hm3⟩
            clear hm1 hm2 hm3
            obtain ⟨a6, c6, rfl, _⟩ := own_form oh6
            obtain ⟨a7, c7, rfl, _⟩ := own_form oq6
            obtain ⟨a8, c8, rfl, _, _, h83⟩ := own_form oe6
            have hb6 : Below wr.heap.size wr w6 := Kept.below HY.out.1 HY.out.1.size hk6 (fun b e => by have := (World.ownsRow.lt HO.out.1 b e).1; omega)
            have hZ : Below wr.heap.size wr (w6.alloc (.cells #[.int .i64 (K k), .slice a6 m1.length c6, .slice a7 m2.length c7] 60)) := push hb6 _
            have bZ := heap_alloc_new w6 (.cells #[.int .i64 (K k), .slice a6 m1.length c6, .slice a7 m2.length c7] 60)
            have oh7 := AsksIs.below oh6 (push (Below.refl _ w6) (.cells #[.int .i64 (K k), .slice a6 m1.length c6, .slice a7 m2.length c7] 60))
            have oq7 := AsksIs.below oq6 (push (Below.refl _ w6) (.cells #[.int .i64 (K k), .slice a6 m1.length c6, .slice a7 m2.length c7] 60))
            have oe7 := own_below (push (Below.refl _ w6) (.cells #[.int .i64 (K k), .slice a6 m1.length c6, .slice a7 m2.length c7] 60)) oe6
            clear oh6 oq6 oe6 hk6
            go_upto_region 12 with fail
            generalize w6.alloc (.cells #[.int .i64 (K k), .slice a6 m1.length c6, .slice a7 m2.length c7] 60) = Z at hZ bZ oh7 oq7 oe7 ⊢
            have HZ7 : Hid (AsksIs Z X.heap.size (.slice a6 m1.length c6) m1 ∧ AsksIs Z X.heap.size (.slice a7 m2.length c7) m2 ∧ Below wr.heap.size wr Z ∧ wr.heap.size ≤ w6.heap.size) := ⟨oh7, oq7, hZ, hb6.size⟩
            have HE7 : Hid (Z.ownsRow w.heap.size 3 1 (.slice ae es.length ce) es.length (cellsI es)) := own_below hZ HE.out
            have HM7 : Hid (Z.ownsRow wc.heap.size 3 1 (.slice a8 m3.length c8) m3.length (cellsI m3)) := oe7
            have HBZ : Hid (Z.heap[w6.heap.size]? = some (.cells #[.int .i64 (K k), .slice a6 m1.length c6, .slice a7 m2.length c7] 60 (0, 0))) := bZ
            have hwZ : w.heap.size ≤ Z.heap.size := Nat.le_trans HB.out.size hZ.size
            clear oh7 oq7 oe7 hZ bZ hb6
            go_upto_region 13 with (first | (at_builtin; refine wpList_append_any _ (by rfl) (.tmp 42) (.tmp 43) 33 (by rfl) w.heap.size 3 i0 (.int .i64 0) 1 8 Try.underlying33 ii iz0 iz1 iz2 rfl (by decide) _ es.length (cellsI es) (by rfl) HE7.out a8 m3.length c8 (cellsI m3) (by rfl) h83 (by simp [cellsI, intList]) (cellsI_get rfl HM7.out) (cellsI_one m3) (by unfold maxLen; omega) (by omega) hwZ ?_; intro v9 w9 ho9 hg9))
            obtain ⟨a9, c9, rfl, _⟩ := own_form ho9
            have hk9 := kept_by hg9
            have b9 := hk9.blk HBZ.out (fun e => by have := (World.ownsRow.lt HE.out _ e).2; have := HZ7.out.2.2.2; omega)
            have hL9 := (HL.out.below HZ7.out.2.2.1).kept hk9 (fun b hb e => (HL.out.below HZ7.out.2.2.1).ints_apart HE7.out b hb e)
            have oh9 : AsksIs w9 X.heap.size (.slice a6 m1.length c6) m1 := hk9.own HZ7.out.1 (fun g e1 e2 => own_apart HE7.out HZ7.out.1 (by decide) g e2 e1)
            have oq9 : AsksIs w9 X.heap.size (.slice a7 m2.length c7) m2 := hk9.own HZ7.out.2.1 (fun g e1 e2 => own_apart HE7.out HZ7.out.2.1 (by decide) g e2 e1)
            have hB9 : Below w.heap.size w w9 := Kept.below (after HB.out HZ7.out.2.2.1) hwZ hk9 (fun b e => (World.ownsRow.lt HE7.out b e).1)
            have hW9 : WaitsIs w9 w.heap.size (.slice a9 (es.length + m3.length) c9) (es ++ m3) := by
              unfold WaitsIs
              rw [List.length_append, cellsI_append]
              exact ho9
            have H9 : Hid (LocksOwn w9 w.heap.size ls.length (.slice av ls.length cv) (keyF ls) (heldF ls) (queueF ls) hv qv ∧ AsksIs w9 X.heap.size (.slice a6 m1.length c6) m1 ∧ AsksIs w9 X.heap.size (.slice a7 m2.length c7) m2 ∧ Below w.heap.size w w9 ∧ WaitsIs w9 w.heap.size (.slice a9 (es.length + m3.length) c9) (es ++ m3)) := ⟨hL9, oh9, oq9, hB9, hW9⟩
            have y0 := blk_cell b9 0 _ rfl
            have y1 := blk_cell b9 1 _ rfl
            have y2 := blk_cell b9 2 _ rfl
            have HAP : Hid (∀ b, (Value.slice a6 m1.length c6).ownBlock = some b → (Value.slice a7 m2.length c7).ownBlock ≠ some b) := hap6
            have HEN2 : Hid (entTo H Q x (k + 1) = es ++ m3) := by show entTo H Q x k ++ (leftOf H Q x k).2.2 = es ++ m3; rw [HES.out, HM.out.2.2]
            clear hL9 oh9 oq9 hB9 hW9 hk9 hg9 ho9 b9 hap6
            by_cases hm : m1.length = 0
            · have dm : decide ((0 : Int) < (m1.length : Int)) = false := by rw [hm]; rfl
              have HLV : Hid (leaveTo K H Q x (k + 1) = ls) := by
                show leaveTo K H Q x (k + 1) = ls
                rw [leaveTo_no (by rw [← HM.out.1]; exact hm)]
                exact HLS.out
              go_wp2
              go_roundg (N - (k + 1))
              case measure => omega
              case rel => exact ⟨k + 1, hv, qv, by omega, rfl, by go_num, by rw [HLV.out]; exact H9.out.1, by rw [HEN2.out]; exact H9.out.2.2.2.2, H9.out.2.2.2.1⟩
            · have dm : decide ((0 : Int) < (m1.length : Int)) = true := by simp; omega
              have HLV : Hid (leaveTo K H Q x (k + 1) = ls ++ [(K k, m1, m2)]) := by
                show leaveTo K H Q x (k + 1) = ls ++ [(K k, m1, m2)]
                rw [leaveTo_yes (by rw [← HM.out.1]; exact hm), HLS.out, HM.out.1, HM.out.2.1]
              have hw9 : w.heap.size ≤ w9.heap.size := H9.out.2.2.2.1.size
              have HLA : Hid (LocksOwn (w9.alloc (.cells #[.int .i64 (K k), .slice a6 m1.length c6, .slice a7 m2.length c7] 60)) w.heap.size ls.length (.slice av ls.length cv) (keyF ls) (heldF ls) (queueF ls) hv qv) := H9.out.1.below (push (Below.refl _ _) _)
              go_wp2_with (first | (at_builtin; refine wpList_append_lies _ (by rfl) (.tmp 49) (.tmp 51) 23 (by rfl) w.heap.size 60 j0 (.agg #[.int .i64 0, .slice none 0 0, .slice none 0 0]) 3 56 Try.underlying23 ji jz0 jz1 jz2 rfl (by decide) (.slice av ls.length cv) ls.length _ (by rfl) HLA.out.row ⟨w9.heap.size, 0, none⟩ 1 1 [.int .i64 (K k), .slice a6 m1.length c6, .slice a7 m2.length c7] (by rfl) (by rfl) (World.news_of_block (cs := #[.int .i64 (K k), .slice a6 m1.length c6, .slice a7 m2.length c7]) (t := 60) (fr := (0, 0)) (heap_alloc_new w9 _)) (by intro u hu; simp at hu; rcases hu with rfl | rfl | rfl <;> rfl) (by decide) (by unfold maxLen; omega) (by omega) (by simp; omega) (w9.heap.size + 1) (by simp) ?_; intro g6 cap6 w10 ho10 hg10 hat10 hlt10))
              go_roundg (N - (k + 1))
              case measure => omega
              case rel =>
                have hS := HLA.out.snocL (lim := X.heap.size) (fun b hb => by have := HL.out.lim b hb; omega) (AsksIs.below H9.out.2.1 (push (Below.refl _ _) _)) (AsksIs.below H9.out.2.2.1 (push (Below.refl _ _) _)) HAP.out (by have := HB.out.size; omega) hg10 ho10
                refine ⟨k + 1, _, _, by omega, rfl, by go_num, by rw [HLV.out]; exact hS, ?_, ?_⟩
                · rw [HEN2.out]
                  exact (kept_by hg10).own (own_below (push (Below.refl _ _) _) H9.out.2.2.2.2) (fun g e1 e2 => own_apart HLA.out.row (own_below (push (Below.refl _ _) _) H9.out.2.2.2.2) (by decide) g e2 e1)
                · exact (push H9.out.2.2.2.1 _).grown hg10 (by simp; omega) (fun j hj => (HLA.out.row.lt j hj).1)
        · obtain rfl : k = N := by omega
          have hnd := (entTo_good (x := x) HGL.out k (Nat.le_refl _)).1
          rw [HES.out] at hnd
          have HL : Hid (LocksOwn wr w.heap.size ls.length (.slice av ls.length cv) (keyF ls) (heldF ls) (queueF ls) hv qv) := hL
          have HE : Hid (wr.ownsRow w.heap.size 3 1 (.slice ae es.length ce) es.length (cellsI es)) := hE
          go_wp2_with (first | (go_at_call 42; refine (sort_own ae es.length ce w.heap.size (getI es) wr HEN (inj_of_nodup hnd) HE.out).mono ?_; rintro e w2 ⟨rfl, ⟨f', ho', hf'⟩, hk'⟩))
          obtain ⟨ts, t1, t2, t3, t4⟩ := sort_list rfl hf'.out.1 hf'.out.2
          refine bodyPost_ret (v := .tuple #[.slice av ls.length cv, .slice ae es.length ce, .int .i64 0]) (by simp [results, Try.results12, go_sem]) rfl ⟨⟨_, _, ls, ts, 0, rfl, ⟨hv, qv, HL.out.kept hk' (fun b hb e => HL.out.ints_apart HE.out b hb e)⟩, ?_, ⟨fun h => absurd HGL.out h, fun _ h => absurd HT.out h, fun _ _ => ⟨HLS.out.symm, ⟨t1, fun y => (t2 y).trans (by rw [HES.out])⟩, rfl⟩⟩⟩, ?_⟩
          · unfold WaitsIs
            rw [t3, ← t4]
            exact ho'
          · exact Kept.below hbel hbel.size hk' (fun b e => (World.ownsRow.lt HE.out b e).1)
    · have HT : Hid (¬ isTask x) := ht
      clear ht
      go_wp2_with (first | (go_at_call 20; refine (isTask_no _ _ HT.out).mono ?_; rintro e w' ⟨rfl, hw'⟩; have hw1 := hw'.symm; subst hw1))
      refine (copyLocks_any ao N c K H Q _ hN HS.out (HZ.out.below hb1)).mono ?_
      rintro e w2 ⟨⟨v, hv, qv, rfl, hL⟩, hb2⟩
      go_wp2
      exact bodyPost_ret (v := .tuple #[v, .slice none 0 0, .int .i64 2]) (by simp [results, Try.results12, go_sem]) rfl ⟨⟨_, _, _, [], 2, rfl, (hL.base hb1.size).told, WaitsIs.nil _ _, ⟨fun h => absurd HGL.out h, fun _ _ => ⟨rfl, rfl, rfl⟩, fun _ h => absurd h HT.out⟩⟩, after hb1 hb2⟩

end Go.Proofs.Ytdmkpflphjemoaa
