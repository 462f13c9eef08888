/-
  OWN TEXT: ForI, ForA0.
-/
import Derived.Test.YtdmkpflphjemoaaB35
import Derived.Test.YtdmkpflphjemoaaB12
namespace Go.Proofs.Ytdmkpflphjemoaa
open Go.RowKit

set_option maxHeartbeats 6400000 in
set_option maxRecDepth 100000 in
theorem waitedFor_any (ao : Option Addr) (N c : Nat) (K : Nat → Int) (H Q : Nat → Line) (x : Int) (w : World) (hN : N ≤ 1048576) (hs : ShortTo N H Q 1048576) (hg : GoodI N K H Q) (hx : LocksAt w ao N K H Q) :
    Calls Try.prog 53 #[.slice ao N c, .int .i64 x] w fun e w' => (∃ v ks, e = .returned v ∧ WaitsIs w' w.heap.size v ks ∧ Hid (ForIs N H Q x ks)) ∧ Below w.heap.size w w' := by
  obtain ⟨j0, ji, jz0, jz1, jz2⟩ := info_parts Try.infoInt
  have HS : Hid (ShortTo N H Q 1048576) := hs
  have HG : Hid (GoodI N K H Q) := hg
  clear hs hg
  go_enter Try.func53, Try.ntmps53
  go_wp2_with fail
  refine (placeInQueue_any ao N c K H Q x _ hN HS.out hx).mono ?_
  rintro e w2 ⟨hl, hbel2⟩
  rcases hl with ⟨i, j, hi, hj, rfl⟩ | ⟨hno, rfl⟩
  · have HI : Hid (waitsIn N Q x i) := hi
    have hiN : i < N := hi.1
    have HJ : Hid (firstAt (Q i) x j) := hj
    have hjn : j < (Q i).n := hj.1
    clear hi hj
    have s1 := (HS.out i hiN).1
    have s2 := (HS.out i hiN).2
    have hi1 : (i : Int) < (N : Int) := by omega
    have hi0 : (0 : Int) ≤ (i : Int) := by omega
    obtain ⟨lb, loff, ha, hc, qa, qc, rfl, h1, h2, h3, l1, l2, k1, k2⟩ := hx i hiN
    have hlb0 := World.block_lt_of_cell? w _ h1
    have a1 := (hbel2.cell (p := ⟨lb, loff + i * 3, none⟩) hlb0).trans h1
    have a2 := (hbel2.cell (p := ⟨lb, loff + i * 3 + 1, none⟩) hlb0).trans h2
    have a3 := (hbel2.cell (p := ⟨lb, loff + i * 3 + 2, none⟩) hlb0).trans h3
    obtain ⟨qb, qoff, rfl, g1, g2⟩ := l2 j hjn
    have hqb0 := World.block_lt_of_cell? w _ g1
    have e1 := (hbel2.cell (p := ⟨qb, qoff + j * 2, none⟩) hqb0).trans g1
    have e2 := (hbel2.cell (p := ⟨qb, qoff + j * 2 + 1, none⟩) hqb0).trans g2
    clear g1 g2 h1 h2 h3
    have hj1 : (j : Int) < ((Q i).n : Int) := by omega
    have hj0 : (0 : Int) ≤ (j : Int) := by omega
    have HT : Hid (∀ a, a < (H i).n + j → isTask ((catLine (H i) (Q i) j).T a)) := cat_tasks HG.out hiN (by omega)
    have HA : Hid (∀ a b, a < b → b < (H i).n + j → (catLine (H i) (Q i) j).T a ≠ (catLine (H i) (Q i) j).T b) := cat_apart HG.out hiN (by omega)
    have hn0 : 0 < (H i).n := (HG.out.2.1 i hiN).2.1.1
    have hlbw : lb < w2.heap.size := Nat.lt_of_lt_of_le hlb0 hbel2.size
    go_upto_region 6 with fail
    go_cut [42, 43, 44] (fun s t u wx => ∃ aC cC, s = .slice aC ((H i).n + j) cC ∧ t = .int .i64 (((H i).n + j : Nat) : Int) ∧ u = .int .i64 0 ∧ wx.ownsRow w2.heap.size 57 2 (.slice aC ((H i).n + j) cC) ((H i).n + j) (askList (catLine (H i) (Q i) j)) ∧ wx.heap[w2.heap.size]? = some (.cells #[.int .i64 ((Q i).T j), .bool ((Q i).S j)] 57 (0, 0)) ∧ Below w2.heap.size w2 wx)
    case first =>
      have hmb : (((w2.alloc (.cells #[.int .i64 ((Q i).T j), .bool ((Q i).S j)] 57)).alloc (.cells #[.slice ha (H i).n hc, .slice (some ⟨qb, qoff, none⟩) j j] 79)).drew).heap[w2.heap.size]? = some (.cells #[.int .i64 ((Q i).T j), .bool ((Q i).S j)] 57 (0, 0)) := blk_alloc (heap_alloc_new w2 _) _
      have hlb1 : (((w2.alloc (.cells #[.int .i64 ((Q i).T j), .bool ((Q i).S j)] 57)).alloc (.cells #[.slice ha (H i).n hc, .slice (some ⟨qb, qoff, none⟩) j j] 79)).drew).heap[w2.heap.size + 1]? = some (.cells #[.slice ha (H i).n hc, .slice (some ⟨qb, qoff, none⟩) j j] 79 (0, 0)) := blk_drew (by simpa using heap_alloc_new (w2.alloc _) _)
      have hb2W := (push (push (Below.refl _ w2) (.cells #[.int .i64 ((Q i).T j), .bool ((Q i).S j)] 57)) (.cells #[.slice ha (H i).n hc, .slice (some ⟨qb, qoff, none⟩) j j] 79)).drew
      have HM : Hid (w2.heap.size ≤ (((w2.alloc (.cells #[.int .i64 ((Q i).T j), .bool ((Q i).S j)] 57)).alloc (.cells #[.slice ha (H i).n hc, .slice (some ⟨qb, qoff, none⟩) j j] 79)).drew).heap.size) := hb2W.size
      have cc := concat_two (w2.heap.size + 1) ha (some ⟨qb, qoff, none⟩) (H i).n j hc j (H i) (Q i) (((w2.alloc (.cells #[.int .i64 ((Q i).T j), .bool ((Q i).S j)] 57)).alloc (.cells #[.slice ha (H i).n hc, .slice (some ⟨qb, qoff, none⟩) j j] 79)).drew) rfl hn0 s1 (by omega) (by omega) hlb1 (l1.below (after hbel2 hb2W)) (l2.below (after hbel2 hb2W)) k1.2.2 (by intro h; cases h)
      go_region_with (first | (go_at_call 65; refine (ahead_is ⟨qb, qoff, none⟩ (Q i).n qc j _ (by omega) k2.1).mono ?_; rintro e w' ⟨rfl, rfl⟩) | (go_at_call 64; refine cc.mono ?_; rintro e w3 ⟨⟨aC, cC, rfl, ho⟩, hb3⟩))
      all_goals
        go_wp2_with fail
        go_meet
        exact ⟨aC, cC, rfl, by simp, rfl, own_base ho HM.out, blk_below hmb hb3, after hb2W hb3⟩
    case rest =>
      obtain ⟨aC, cC, rfl, rfl, rfl, ho, hmb, hb3⟩ := hcut
      obtain ⟨w3, ew3⟩ : ∃ x, x = wc := ⟨_, rfl⟩
      subst ew3
      have hbel3 := after hbel2 hb3
      clear a1 a2 a3 e1 e2
      go_wp2
      go_loopg [9, 44] ((H i).n + j) (fun g v ii wr => ∃ (t : Nat), t ≤ (H i).n + j ∧ g = (H i).n + j - t ∧ ii = .int .i64 t ∧ WaitsIs wr w.heap.size v (seqTo (catLine (H i) (Q i) j) ((Q i).S j) t) ∧ wr.heap[w2.heap.size]? = some (.cells #[.int .i64 ((Q i).T j), .bool ((Q i).S j)] 57 (0, 0)) ∧ wr.ownsRow w2.heap.size 57 2 (.slice aC ((H i).n + j) cC) ((H i).n + j) (askList (catLine (H i) (Q i) j)) ∧ Below w.heap.size w wr)
      case atStart => exact ⟨0, Nat.zero_le _, rfl, rfl, WaitsIs.nil _ _, hmb, ho, hbel3⟩
      case round =>
        clear hmb ho hbel3
        obtain ⟨t, ht, rfl, rfl, hwt, hmb, ho, hbel⟩ := hrel
        obtain ⟨w4, ew4⟩ : ∃ x, x = wr := ⟨_, rfl⟩
        subst ew4
        have hlec := seqTo_le (catLine (H i) (Q i) j) ((Q i).S j) t
        have hsz := hbel.size
        by_cases hlt : t < (H i).n + j
        · obtain ⟨gC, rfl, hgC1, hgC2⟩ := own_addr ho (by omega)
          have t1 := own_cell ho (t * 2) (by omega) rfl
          have t2 := own_cell ho (t * 2 + 1) (by omega) rfl
          rw [askCell_0] at t1
          rw [askCell_1] at t2
          have hlt2 : (t : Int) < (((H i).n + j : Nat) : Int) := by omega
          have hlt3 : (t : Int) < ((H i).n : Int) + (j : Int) := by omega
          have hmb4 := blk_alloc hmb (.cells #[.int .i64 ((catLine (H i) (Q i) j).T t), .bool ((catLine (H i) (Q i) j).S t)] 57)
          have m1 := blk_cell hmb4 1 _ rfl
          have hwt4 := hwt.below (push (Below.refl _ w4) (.cells #[.int .i64 ((catLine (H i) (Q i) j).T t), .bool ((catLine (H i) (Q i) j).S t)] 57))
          have ho4 := ho.alloc (.cells #[.int .i64 ((catLine (H i) (Q i) j).T t), .bool ((catLine (H i) (Q i) j).S t)] 57)
          have hbel4 := push hbel (.cells #[.int .i64 ((catLine (H i) (Q i) j).T t), .bool ((catLine (H i) (Q i) j).S t)] 57)
          have HYES : Hid ((!(catLine (H i) (Q i) j).S t || !(Q i).S j) = true → seqTo (catLine (H i) (Q i) j) ((Q i).S j) (t + 1) = seqTo (catLine (H i) (Q i) j) ((Q i).S j) t ++ [(catLine (H i) (Q i) j).T t]) := seqTo_yes
          have HNO : Hid ((!(catLine (H i) (Q i) j).S t || !(Q i).S j) = false → seqTo (catLine (H i) (Q i) j) ((Q i).S j) (t + 1) = seqTo (catLine (H i) (Q i) j) ((Q i).S j) t) := seqTo_no
          generalize hsv : (catLine (H i) (Q i) j).S t = sv at *
          clear hsv
          generalize hmv : (Q i).S j = mv at *
          have HMV : Hid ((Q i).S j = mv) := hmv
          clear hmv
          cases sv with
          | false =>
            have HY : Hid (seqTo (catLine (H i) (Q i) j) mv (t + 1) = seqTo (catLine (H i) (Q i) j) mv t ++ [(catLine (H i) (Q i) j).T t]) := HYES.out rfl
            clear HYES HNO
            go_wp2_with (first | (at_builtin; refine wpList_append_lies _ (by rfl) (.tmp 56) (.tmp 59) 33 (by rfl) w.heap.size 3 j0 (.int .i64 0) 1 8 Try.underlying33 ji jz0 jz1 jz2 rfl (by decide) _ (seqTo (catLine (H i) (Q i) j) mv t).length (cellsI (seqTo (catLine (H i) (Q i) j) mv t)) (by rfl) (hwt4.alloc _) ⟨w4.heap.size + 1, 0, none⟩ 1 1 [.int .i64 ((catLine (H i) (Q i) j).T t)] (by rfl) (by rfl) (World.news_of_block (by simpa using heap_alloc_new (w4.alloc _) _)) (by intro u hu; simp at hu; subst hu; rfl) (by decide) (by unfold maxLen; omega) (by omega) (by simp; omega) _ rfl ?_; intro g cap w6 hown6 hgrow hat hlt6))
            have hkg := kept_by hgrow
            go_roundg ((H i).n + j - (t + 1))
            case measure => omega
            case rel => exact ⟨t + 1, by omega, rfl, by go_num, by
              rw [HY.out]; unfold WaitsIs; rw [cellsI_snoc, List.length_append]; exact hown6, hkg.blk (blk_alloc hmb4 _) (fun e => box_not_row (blk_alloc hmb4 (.cells #[.int .i64 ((catLine (H i) (Q i) j).T t)] 3)) (hwt4.alloc _) (by decide) e.symm), hkg.own (ho4.alloc _) (fun b hb e => own_apart ho4 hwt4 (by decide) b hb e), (push hbel4 _).grown hgrow (by simp; omega) (fun j hj => (hwt.lt j hj).1)⟩
          | true =>
            cases mv with
            | false =>
              have HY : Hid (seqTo (catLine (H i) (Q i) j) false (t + 1) = seqTo (catLine (H i) (Q i) j) false t ++ [(catLine (H i) (Q i) j).T t]) := HYES.out rfl
              clear HYES HNO
              go_wp2_with (first | (at_builtin; refine wpList_append_lies _ (by rfl) (.tmp 56) (.tmp 59) 33 (by rfl) w.heap.size 3 j0 (.int .i64 0) 1 8 Try.underlying33 ji jz0 jz1 jz2 rfl (by decide) _ (seqTo (catLine (H i) (Q i) j) false t).length (cellsI (seqTo (catLine (H i) (Q i) j) false t)) (by rfl) (hwt4.alloc _) ⟨w4.heap.size + 1, 0, none⟩ 1 1 [.int .i64 ((catLine (H i) (Q i) j).T t)] (by rfl) (by rfl) (World.news_of_block (by simpa using heap_alloc_new (w4.alloc _) _)) (by intro u hu; simp at hu; subst hu; rfl) (by decide) (by unfold maxLen; omega) (by omega) (by simp; omega) _ rfl ?_; intro g cap w6 hown6 hgrow hat hlt6))
              have hkg := kept_by hgrow
              go_roundg ((H i).n + j - (t + 1))
              case measure => omega
              case rel => exact ⟨t + 1, by omega, rfl, by go_num, by
                rw [HY.out]; unfold WaitsIs; rw [cellsI_snoc, List.length_append]; exact hown6, hkg.blk (blk_alloc hmb4 _) (fun e => box_not_row (blk_alloc hmb4 (.cells #[.int .i64 ((catLine (H i) (Q i) j).T t)] 3)) (hwt4.alloc _) (by decide) e.symm), hkg.own (ho4.alloc _) (fun b hb e => own_apart ho4 hwt4 (by decide) b hb e), (push hbel4 _).grown hgrow (by simp; omega) (fun j hj => (hwt.lt j hj).1)⟩
            | true =>
              have HY : Hid (seqTo (catLine (H i) (Q i) j) true (t + 1) = seqTo (catLine (H i) (Q i) j) true t) := HNO.out rfl
              clear HYES HNO
              go_wp2
              go_roundg ((H i).n + j - (t + 1))
              case measure => omega
              case rel => exact ⟨t + 1, by omega, rfl, by go_num, by rw [HY.out]; exact hwt4, hmb4, ho4, hbel4⟩
        · have hte : t = (H i).n + j := by omega
          have HTE : Hid (t = (H i).n + j) := hte
          have HND : Hid ((seqTo (catLine (H i) (Q i) j) ((Q i).S j) t).Nodup ∧ (seqTo (catLine (H i) (Q i) j) ((Q i).S j) t).length ≤ 12) := ⟨seqTo_nodup t (fun a b hab hb => HA.out a b hab (by omega)), seqTo_few (fun a b hab hb => HA.out a b hab (by omega)) (fun a ha => HT.out a (by omega))⟩
          clear hte hlec
          obtain ⟨av, cv, rfl, _⟩ := own_form hwt
          generalize hks : seqTo (catLine (H i) (Q i) j) ((Q i).S j) t = ks at *
          have HKS : Hid (seqTo (catLine (H i) (Q i) j) ((Q i).S j) t = ks) := hks
          clear hks
          go_wp2_with fail
          refine (sort_own av ks.length cv w.heap.size (getI ks) _ HND.out.2 (inj_of_nodup HND.out.1) hwt).mono ?_
          rintro e w5 ⟨rfl, ⟨f', ho5, HF⟩, hk5⟩
          obtain ⟨ts, st1, st2, st3, st4⟩ := sort_list rfl HF.out.1 HF.out.2
          have HTS : Hid (Strict ts ∧ ∀ y, y ∈ ts ↔ y ∈ ks) := ⟨st1, st2⟩
          have hfin : WaitsIs w5 w.heap.size (.slice av ks.length cv) ts := by unfold WaitsIs; rw [← st4, st3]; exact ho5
          have hbel5 := Kept.below hbel hbel.size hk5 (fun b hb => (hwt.lt b hb).1)
          clear st1 st2 st3 st4 ho5 hk5 HF
          go_wp2
          go_ret
          exact ⟨⟨_, ts, rfl, hfin, .inr ⟨i, j, HI.out, HJ.out, HTS.out.1, fun y => by rw [HTS.out.2 y, ← HKS.out, HTE.out]⟩⟩, hbel5⟩
  · have HN : Hid (noWait N Q x) := hno
    clear hno
    go_wp2
    go_ret
    exact ⟨⟨_, [], rfl, WaitsIs.nil _ _, .inl ⟨HN.out, rfl⟩⟩, hbel2⟩

end Go.Proofs.Ytdmkpflphjemoaa

namespace Go.Proofs.Ytdmkpflphjemoaa
open Go.RowKit

/-- What WaitsFor answers. -/
def ForAns (P : Prop) (N : Nat) (H Q : Nat → Line) (x : Int) (ks : List Int) (ok : Bool) : Prop := (P → ForIs N H Q x ks ∧ ok = true) ∧ (¬ P → ks = [] ∧ ok = false)
theorem forIs_len {N : Nat} {K : Nat → Int} {H Q : Nat → Line} {x : Int} {ks : List Int} (hg : GoodI N K H Q) (h : ForIs N H Q x ks) : ks.length ≤ 12 := by
  rcases h with ⟨_, rfl⟩ | ⟨i, j, hi, hj, hs, hm⟩
  · exact Nat.zero_le _
  · exact strict_few hs hm (cat_tasks hg hi.1 (Nat.le_of_lt hj.1))
end Go.Proofs.Ytdmkpflphjemoaa
