/-
  OWN TEXT: SpecOld, SpecOwA, KitZ, KitBs.
-/
import Derived.Deep.RegionHeld3
import Derived.Deep.DeepCutAuto
import Derived.Deep.RegionLawGrows
import Derived.Deep.AppendLies
import Derived.Great.Walk
import Derived.Laws.Tables
import Derived.Test.YtlelckbeoclhbaaGreatB28
import Derived.Test.YtlelckbeoclhbaaGreatB29
import Derived.Test.YtlelckbeoclhbaaGreatB16
import Derived.Test.YtlelckbeoclhbaaGreatB00
set_option maxHeartbeats 12800000
set_option maxRecDepth 100000
namespace Go.Proofs.YtlelckbeoclhbaaGreat
open Go.RowKit
theorem new2 (w : World) (o p : Obj) : ((w.alloc o).alloc p).heap[w.heap.size + 1]? = some p := by simpa using heap_alloc_new (w.alloc o) p
theorem new_at (w : World) (o : Obj) (b : Nat) (h : b = w.heap.size) : (w.alloc o).heap[b]? = some o := by rw [h]; exact heap_alloc_new w o
theorem set3_blk {w : World} {g t : Nat} {u0 u1 u2 : Value} (h : w.heap[g]? = some (.cells #[u0, u1, u2] t (0, 0))) (v0 v1 v2 : Value) : (((w.setCell ⟨g, 0, none⟩ v0).setCell ⟨g, 1, none⟩ v1).setCell ⟨g, 2, none⟩ v2).heap[g]? = some (.cells #[v0, v1, v2] t (0, 0)) := by
  simpa using blk_set (blk_set (blk_set h 0 v0) 1 v1) 2 v2
theorem keep3 (w : World) (g : Nat) (v0 v1 v2 : Value) : Kept w (((w.setCell ⟨g, 0, none⟩ v0).setCell ⟨g, 1, none⟩ v1).setCell ⟨g, 2, none⟩ v2) (fun b => b = g) := (((Kept.refl w (fun b => b = g)).set (a := ⟨g, 0, none⟩) rfl v0).set (a := ⟨g, 1, none⟩) rfl v1).set (a := ⟨g, 2, none⟩) rfl v2
theorem l7OwnLoad_any (a1 a2 a3 : Option Addr) (c1 c2 c3 : Nat) (x : Load) (w : World) (hs : Load.Short x 1048576) (h1 : StaysAt w a1 x.stn x.st) (h2 : RoomsAt w a2 x.ron x.ro) (h3 : SeatsAt w a3 x.sen x.se) (s1 : SliceOk a1 x.stn c1) (s2 : SliceOk a2 x.ron c2) (s3 : SliceOk a3 x.sen c3) :
    Calls Tryz.prog 56 #[.agg #[.slice a1 x.stn c1, .slice a2 x.ron c2, .slice a3 x.sen c3]] w fun e w' => (∃ v1 v2 v3, e = .returned (.agg #[v1, v2, v3]) ∧ w'.ownsRow w.heap.size 118 4 v1 x.stn (stayList x.st x.stn) ∧ w'.ownsRow w.heap.size 120 4 v2 x.ron (roomList x.ro x.ron) ∧ w'.ownsRow w.heap.size 126 2 v3 x.sen (seatList x.se x.sen)) ∧ Below w.heap.size w w' := by
  obtain ⟨i0, ii, iz0, iz1, iz2⟩ := info_parts Tryz.infoStay
  obtain ⟨j0, ji, jz0, jz1, jz2⟩ := info_parts Tryz.infoRoom
  obtain ⟨k0, ki, kz0, kz1, kz2⟩ := info_parts Tryz.infoSeat
  obtain ⟨b1, b2, b3⟩ := hs
  have HN1 : Hid (a1 = none → x.stn = 0 ∧ c1 = 0) := s1.2.2
  have HN2 : Hid (a2 = none → x.ron = 0 ∧ c2 = 0) := s2.2.2
  have HN3 : Hid (a3 = none → x.sen = 0 ∧ c3 = 0) := s3.2.2
  have HA : Hid (StaysAt w a1 x.stn x.st ∧ RoomsAt w a2 x.ron x.ro ∧ SeatsAt w a3 x.sen x.se) := ⟨h1, h2, h3⟩
  clear h1 h2 h3 s1 s2 s3
  have hb0 : Below w.heap.size w ((w.alloc (.cells #[.slice a1 x.stn c1, .slice a2 x.ron c2, .slice a3 x.sen c3] 62)).alloc (.cells #[.slice none 0 0, .slice none 0 0, .slice none 0 0] 62)) := push (push (Below.refl _ _) _) _
  have bS : ((w.alloc (.cells #[.slice a1 x.stn c1, .slice a2 x.ron c2, .slice a3 x.sen c3] 62)).alloc (.cells #[.slice none 0 0, .slice none 0 0, .slice none 0 0] 62)).heap[w.heap.size]? = some (.cells #[.slice a1 x.stn c1, .slice a2 x.ron c2, .slice a3 x.sen c3] 62 (0, 0)) := blk_alloc (heap_alloc_new w _) _
  have bR := new2 w (.cells #[.slice a1 x.stn c1, .slice a2 x.ron c2, .slice a3 x.sen c3] 62) (.cells #[.slice none 0 0, .slice none 0 0, .slice none 0 0] 62)
  go_enter Tryz.func56, Tryz.ntmps56
  go_upto_region 1 with fail
  generalize (w.alloc (.cells #[.slice a1 x.stn c1, .slice a2 x.ron c2, .slice a3 x.sen c3] 62)).alloc (.cells #[.slice none 0 0, .slice none 0 0, .slice none 0 0] 62) = X at hb0 bS bR ⊢
  have hX : w.heap.size + 1 < X.heap.size := blk_lt bR
  have HL1 : Hid (∀ w', Below X.heap.size X w' → StaysAt w' a1 x.stn x.st) := fun w' h => HA.out.1.below (after hb0 h)
  have HL2 : Hid (∀ w', Below X.heap.size X w' → RoomsAt w' a2 x.ron x.ro) := fun w' h => HA.out.2.1.below (after hb0 h)
  have HL3 : Hid (∀ w', Below X.heap.size X w' → SeatsAt w' a3 x.sen x.se) := fun w' h => HA.out.2.2.below (after hb0 h)
  have KS : Hid (∀ w', Below X.heap.size X w' → w'.cell? ⟨w.heap.size, 0, none⟩ = some (.slice a1 x.stn c1) ∧ w'.cell? ⟨w.heap.size, 1, none⟩ = some (.slice a2 x.ron c2) ∧ w'.cell? ⟨w.heap.size, 2, none⟩ = some (.slice a3 x.sen c3)) := fun w' h => ⟨blk_cell (blk_below bS h) 0 _ rfl, blk_cell (blk_below bS h) 1 _ rfl, blk_cell (blk_below bS h) 2 _ rfl⟩
  have KT : Hid (∀ z, Below X.heap.size X z → ∀ v1 v2 v3 u', u' = ((z.setCell ⟨w.heap.size + 1, 0, none⟩ v1).setCell ⟨w.heap.size + 1, 1, none⟩ v2).setCell ⟨w.heap.size + 1, 2, none⟩ v3 → u'.cell? ⟨w.heap.size, 0, none⟩ = some (.slice a1 x.stn c1) ∧ u'.cell? ⟨w.heap.size, 1, none⟩ = some (.slice a2 x.ron c2) ∧ u'.cell? ⟨w.heap.size, 2, none⟩ = some (.slice a3 x.sen c3)) := fun z hz v1 v2 v3 u' e => by
    subst e
    have b := (keep3 z (w.heap.size + 1) v1 v2 v3).blk (blk_below bS hz) (by show ¬ _ = _; omega)
    exact ⟨blk_cell b 0 _ rfl, blk_cell b 1 _ rfl, blk_cell b 2 _ rfl⟩
  have BR : Hid (∀ w', Below X.heap.size X w' → w'.heap[w.heap.size + 1]? = some (.cells #[.slice none 0 0, .slice none 0 0, .slice none 0 0] 62 (0, 0))) := fun w' h => blk_below bR h
  have HB0 : Hid (Below w.heap.size w X) := hb0
  obtain ⟨x0, x1, x2⟩ := KS.out X (Below.refl _ _)
  have HFIN : Hid (∀ z, Below X.heap.size X z → ∀ v1 v2 v3, z.ownsRow X.heap.size 118 4 v1 x.stn (stayList x.st x.stn) → z.ownsRow X.heap.size 120 4 v2 x.ron (roomList x.ro x.ron) → z.ownsRow X.heap.size 126 2 v3 x.sen (seatList x.se x.sen) → ∀ z', z' = ((z.setCell ⟨w.heap.size + 1, 0, none⟩ v1).setCell ⟨w.heap.size + 1, 1, none⟩ v2).setCell ⟨w.heap.size + 1, 2, none⟩ v3 →
      z'.heap[w.heap.size + 1]? = some (.cells #[v1, v2, v3] 62 (0, 0)) ∧ (z'.ownsRow w.heap.size 118 4 v1 x.stn (stayList x.st x.stn) ∧ z'.ownsRow w.heap.size 120 4 v2 x.ron (roomList x.ro x.ron) ∧ z'.ownsRow w.heap.size 126 2 v3 x.sen (seatList x.se x.sen)) ∧ Below w.heap.size w z') := fun z hz v1 v2 v3 o1 o2 o3 z' e => by
    subst e
    have hk := keep3 z (w.heap.size + 1) v1 v2 v3
    have b := BR.out z hz
    have hB := after HB0.out hz
    exact ⟨set3_blk b v1 v2 v3, ⟨hk.own (own_base o1 HB0.out.size) (own_notE (own_base o1 HB0.out.size) b (by decide)), hk.own (own_base o2 HB0.out.size) (own_notE (own_base o2 HB0.out.size) b (by decide)), hk.own (own_base o3 HB0.out.size) (own_notE (own_base o3 HB0.out.size) b (by decide))⟩, Kept.below hB hB.size hk (fun k e => by have e : k = w.heap.size + 1 := e; omega)⟩
  clear bS bR hb0 HA
  go_region_held3 (fun w' => w'.cell? ⟨w.heap.size, 0, none⟩ = some (.slice a1 x.stn c1) ∧ w'.cell? ⟨w.heap.size, 1, none⟩ = some (.slice a2 x.ron c2) ∧ w'.cell? ⟨w.heap.size, 2, none⟩ = some (.slice a3 x.sen c3))
    (first | (with_reducible exact KT.out u3 HB3.out _ _ _ _ rfl) | (with_reducible exact KT.out u2 HB2.out _ _ _ _ rfl) | (with_reducible exact KT.out u1 HB1.out _ _ _ _ rfl) | (refine KS.out _ ?_; exact (by repeat (first | exact Below.refl _ _ | refine Below.drew ?_ | refine push ?_ _ | refine after ?_ (grown_below hg1) | refine after ?_ (grown_below hg2) | refine after ?_ (grown_below hg3)))))
    (first
      | (refine step_append_own0 (by rfl) (.tmp 11) (.tmp 13) 60 (by rfl) 126 k0 (.agg #[.int .i64 0, .int .i64 0]) 2 16 Tryz.underlying60 ki kz0 kz1 kz2 rfl (by decide) X.heap.size _ (by rfl) (by first | exact Nat.le_refl _ | omega | (simp; done) | (simp; omega) | (have h1 := HB1.out.size; simp; omega) | (have h1 := HB1.out.size; omega) | (have h1 := HB2.out.size; simp; omega) | (have h1 := HB2.out.size; omega)) (by repeat (first | ((with_reducible refine new_at _ _ _ ?_); (first | rfl | (simp; done))) | with_reducible refine blk_drew ?_ | with_reducible refine blk_alloc ?_ _ | with_reducible refine blk_below ?_ (grown_below hg1) | with_reducible refine blk_below ?_ (grown_below hg2))) a3 x.sen c3 (seatList x.se x.sen) (by rfl) HN3.out (seatList_length _ _) (seats_cells (HL3.out _ (by repeat (first | exact Below.refl _ _ | refine Below.drew ?_ | refine push ?_ _ | refine after ?_ (grown_below hg1) | refine after ?_ (grown_below hg2) | refine after ?_ (grown_below hg3))))) (seatList_one _ _) (by unfold maxLen; omega) (by omega) ?_; intro p3 q3 u3 hg3 hr3 hat3; clear hat3; have HB3 : Hid (Below X.heap.size X u3) := (by repeat (first | exact Below.refl _ _ | refine Below.drew ?_ | refine push ?_ _ | refine after ?_ (grown_below hg1) | refine after ?_ (grown_below hg2) | refine after ?_ (grown_below hg3))); have z3 := BR.out u3 HB3.out; have y0 := blk_cell z3 0 _ rfl; have y1 := blk_cell z3 1 _ rfl; have y2 := blk_cell z3 2 _ rfl; have f0 := blk_free z3 0; have f1 := blk_free z3 1; have f2 := blk_free z3 2; clear z3; have O3 : Hid (u3.ownsRow X.heap.size 126 2 (.slice p3 x.sen q3) x.sen (seatList x.se x.sen)) := hr3; (first | (refine (fun (O1 : Hid (u3.ownsRow X.heap.size 118 4 (.slice p1 x.stn q1) x.stn (stayList x.st x.stn))) => ?_) (own_below (w := u1) ?_ hr1); rotate_left; (focus (repeat (first | exact Below.refl _ _ | refine Below.drew ?_ | refine push ?_ _ | refine after ?_ (grown_below hg3) | refine after ?_ (grown_below hg2))))) | skip); (first | (refine (fun (O2 : Hid (u3.ownsRow X.heap.size 120 4 (.slice p2 x.ron q2) x.ron (roomList x.ro x.ron))) => ?_) (own_below (w := u2) ?_ hr2); rotate_left; (focus (repeat (first | exact Below.refl _ _ | refine Below.drew ?_ | refine push ?_ _ | refine after ?_ (grown_below hg3) | refine after ?_ (grown_below hg1))))) | skip))
      | (refine step_append_own0 (by rfl) (.tmp 7) (.tmp 9) 59 (by rfl) 120 j0 (.agg #[.int .i64 0, .int .i64 0, .int .i64 0, .bool false]) 4 32 Tryz.underlying59 ji jz0 jz1 jz2 rfl (by decide) X.heap.size _ (by rfl) (by first | exact Nat.le_refl _ | omega | (simp; done) | (simp; omega) | (have h1 := HB1.out.size; simp; omega) | (have h1 := HB1.out.size; omega) | (have h1 := HB3.out.size; simp; omega) | (have h1 := HB3.out.size; omega)) (by repeat (first | ((with_reducible refine new_at _ _ _ ?_); (first | rfl | (simp; done))) | with_reducible refine blk_drew ?_ | with_reducible refine blk_alloc ?_ _ | with_reducible refine blk_below ?_ (grown_below hg1) | with_reducible refine blk_below ?_ (grown_below hg3))) a2 x.ron c2 (roomList x.ro x.ron) (by rfl) HN2.out (roomList_length _ _) (rooms_cells (HL2.out _ (by repeat (first | exact Below.refl _ _ | refine Below.drew ?_ | refine push ?_ _ | refine after ?_ (grown_below hg1) | refine after ?_ (grown_below hg2) | refine after ?_ (grown_below hg3))))) (roomList_one _ _) (by unfold maxLen; omega) (by omega) ?_; intro p2 q2 u2 hg2 hr2 hat2; clear hat2; have HB2 : Hid (Below X.heap.size X u2) := (by repeat (first | exact Below.refl _ _ | refine Below.drew ?_ | refine push ?_ _ | refine after ?_ (grown_below hg1) | refine after ?_ (grown_below hg2) | refine after ?_ (grown_below hg3))); have z2 := BR.out u2 HB2.out; have y0 := blk_cell z2 0 _ rfl; have y1 := blk_cell z2 1 _ rfl; have y2 := blk_cell z2 2 _ rfl; have f0 := blk_free z2 0; have f1 := blk_free z2 1; have f2 := blk_free z2 2; clear z2; have O2 : Hid (u2.ownsRow X.heap.size 120 4 (.slice p2 x.ron q2) x.ron (roomList x.ro x.ron)) := hr2; (first | (refine (fun (O1 : Hid (u2.ownsRow X.heap.size 118 4 (.slice p1 x.stn q1) x.stn (stayList x.st x.stn))) => ?_) (own_below (w := u1) ?_ hr1); rotate_left; (focus (repeat (first | exact Below.refl _ _ | refine Below.drew ?_ | refine push ?_ _ | refine after ?_ (grown_below hg2) | refine after ?_ (grown_below hg3))))) | skip); (first | (refine (fun (O3 : Hid (u2.ownsRow X.heap.size 126 2 (.slice p3 x.sen q3) x.sen (seatList x.se x.sen))) => ?_) (own_below (w := u3) ?_ hr3); rotate_left; (focus (repeat (first | exact Below.refl _ _ | refine Below.drew ?_ | refine push ?_ _ | refine after ?_ (grown_below hg2) | refine after ?_ (grown_below hg1))))) | skip))
      | (refine step_append_own0 (by rfl) (.tmp 3) (.tmp 5) 58 (by rfl) 118 i0 (.agg #[.int .i64 0, .int .i64 0, .int .i64 0, .int .i64 0]) 4 32 Tryz.underlying58 ii iz0 iz1 iz2 rfl (by decide) X.heap.size _ (by rfl) (by first | exact Nat.le_refl _ | omega | (simp; done) | (simp; omega) | (have h1 := HB2.out.size; simp; omega) | (have h1 := HB2.out.size; omega) | (have h1 := HB3.out.size; simp; omega) | (have h1 := HB3.out.size; omega)) (by repeat (first | ((with_reducible refine new_at _ _ _ ?_); (first | rfl | (simp; done))) | with_reducible refine blk_drew ?_ | with_reducible refine blk_alloc ?_ _ | with_reducible refine blk_below ?_ (grown_below hg2) | with_reducible refine blk_below ?_ (grown_below hg3))) a1 x.stn c1 (stayList x.st x.stn) (by rfl) HN1.out (stayList_length _ _) (stays_cells (HL1.out _ (by repeat (first | exact Below.refl _ _ | refine Below.drew ?_ | refine push ?_ _ | refine after ?_ (grown_below hg1) | refine after ?_ (grown_below hg2) | refine after ?_ (grown_below hg3))))) (stayList_one _ _) (by unfold maxLen; omega) (by omega) ?_; intro p1 q1 u1 hg1 hr1 hat1; clear hat1; have HB1 : Hid (Below X.heap.size X u1) := (by repeat (first | exact Below.refl _ _ | refine Below.drew ?_ | refine push ?_ _ | refine after ?_ (grown_below hg1) | refine after ?_ (grown_below hg2) | refine after ?_ (grown_below hg3))); have z1 := BR.out u1 HB1.out; have y0 := blk_cell z1 0 _ rfl; have y1 := blk_cell z1 1 _ rfl; have y2 := blk_cell z1 2 _ rfl; have f0 := blk_free z1 0; have f1 := blk_free z1 1; have f2 := blk_free z1 2; clear z1; have O1 : Hid (u1.ownsRow X.heap.size 118 4 (.slice p1 x.stn q1) x.stn (stayList x.st x.stn)) := hr1; (first | (refine (fun (O2 : Hid (u1.ownsRow X.heap.size 120 4 (.slice p2 x.ron q2) x.ron (roomList x.ro x.ron))) => ?_) (own_below (w := u2) ?_ hr2); rotate_left; (focus (repeat (first | exact Below.refl _ _ | refine Below.drew ?_ | refine push ?_ _ | refine after ?_ (grown_below hg1) | refine after ?_ (grown_below hg3))))) | skip); (first | (refine (fun (O3 : Hid (u1.ownsRow X.heap.size 126 2 (.slice p3 x.sen q3) x.sen (seatList x.se x.sen))) => ?_) (own_below (w := u3) ?_ hr3); rotate_left; (focus (repeat (first | exact Below.refl _ _ | refine Below.drew ?_ | refine push ?_ _ | refine after ?_ (grown_below hg1) | refine after ?_ (grown_below hg2))))) | skip)))
  all_goals
    first
      | (have HF : Hid _ := HFIN.out u3 HB3.out _ _ _ O1.out O2.out O3.out _ rfl)
      | (have HF : Hid _ := HFIN.out u2 HB2.out _ _ _ O1.out O2.out O3.out _ rfl)
      | (have HF : Hid _ := HFIN.out u1 HB1.out _ _ _ O1.out O2.out O3.out _ rfl)
    go_wp2
    have rF := HF.out.1
    have t0 := blk_cell rF 0 _ rfl
    have t1 := blk_cell rF 1 _ rfl
    have t2 := blk_cell rF 2 _ rfl
    exact bodyPost_ret (v := .agg #[.slice p1 x.stn q1, .slice p2 x.ron q2, .slice p3 x.sen q3]) (by simp [results, Tryz.results56, go_sem, t0, t1, t2]) rfl ⟨⟨_, _, _, rfl, HF.out.2.1⟩, HF.out.2.2⟩
end Go.Proofs.YtlelckbeoclhbaaGreat

namespace Go.Proofs.YtlelckbeoclhbaaGreat
open Go.RowKit
theorem Tryz.infoLoadO : (Tryz.prog.info? 62).map (fun i => (i.zero, i.size, i.bytes)) = some (some (.agg #[.slice none 0 0, .slice none 0 0, .slice none 0 0]), 3, 72) := by kernel_rfl
theorem Tryz.infoBookingO : (Tryz.prog.info? 72).map (fun i => (i.zero, i.size, i.bytes)) = some (some (.agg #[.int .i64 0, .int .i64 0, .string ⟨#[]⟩, .slice none 0 0, .int .i64 0, .int .i64 0, .int .i64 0, .int .i64 0, .bool false, .int .i64 0, .int .i64 0, .int .i64 0, .int .i64 0]), 13, 128) := by kernel_rfl
theorem sbox_5 {w : World} {g t : Nat} {u0 u1 u2 u3 u4 u5 u6 u7 : Value} (h : w.heap[g]? = some (.cells #[u0, u1, u2, u3, u4, u5, u6, u7] t (0, 0))) (v : Value) : (w.setCell ⟨g, 5, none⟩ v).heap[g]? = some (.cells #[u0, u1, u2, u3, u4, v, u6, u7] t (0, 0)) := by simpa using blk_set h 5 v
theorem sbox_6 {w : World} {g t : Nat} {u0 u1 u2 u3 u4 u5 u6 u7 : Value} (h : w.heap[g]? = some (.cells #[u0, u1, u2, u3, u4, u5, u6, u7] t (0, 0))) (v : Value) : (w.setCell ⟨g, 6, none⟩ v).heap[g]? = some (.cells #[u0, u1, u2, u3, u4, u5, v, u7] t (0, 0)) := by simpa using blk_set h 6 v
theorem bbox_3 {w : World} {g t : Nat} {u0 u1 u2 u3 u4 u5 u6 u7 u8 u9 u10 u11 u12 : Value} (h : w.heap[g]? = some (.cells #[u0, u1, u2, u3, u4, u5, u6, u7, u8, u9, u10, u11, u12] t (0, 0))) (v : Value) : (w.setCell ⟨g, 3, none⟩ v).heap[g]? = some (.cells #[u0, u1, u2, v, u4, u5, u6, u7, u8, u9, u10, u11, u12] t (0, 0)) := by simpa using blk_set h 3 v
theorem ints_cellsO {w : World} {ao : Option Addr} {n : Nat} {F : Nat → Int} (h : IntsAt w ao n F) : ∀ ad, ao = some ad → ∀ j u, (intList F n)[j]? = some u → w.cell? (ad.add j) = some u := by
  intro ad e j u hu
  obtain ⟨hj, rfl⟩ := intList_get F n j u hu
  obtain ⟨b, off, e2, hc⟩ := h j hj
  rw [e] at e2
  cases e2
  rw [Addr.add_lit]
  exact hc
theorem Tryz.sizeBookingO : (Tryz.prog.info? 72).map (·.size) = some 13 := by kernel_rfl
theorem builtBook (n a pe len hei cl be st un pr : Int) (o : ByteArray) (al : Bool) (la : Option Addr) (ln lc : Nat) :
    Tryz.prog.builtSlice 72 1 [(0, .agg #[.int .i64 n, .int .i64 a, .string o, .slice la ln lc, .int .i64 pe, .int .i64 len, .int .i64 hei, .int .i64 cl, .bool al, .int .i64 be, .int .i64 st, .int .i64 un, .int .i64 pr])] = some #[.int .i64 n, .int .i64 a, .string o, .slice la ln lc, .int .i64 pe, .int .i64 len, .int .i64 hei, .int .i64 cl, .bool al, .int .i64 be, .int .i64 st, .int .i64 un, .int .i64 pr] := by kernel_rfl
structure OwSt (w V wx : World) (v1 v2 v3 : Value) (n1 n2 n3 : Nat) (x : Off) (L C A B D E : Nat → Value) : Prop where
  q : wx.heap[w.heap.size + 1 + 1]? = some (.cells #[v1, v2, v3] 39 (0, 0))
  own : OwnOff wx V.heap.size v1 v2 v3 n1 n2 n3 x L C A B D E
  kp : Kept V wx (fun b => b = w.heap.size + 1 + 1 ∨ V.heap.size ≤ b)
theorem l7Own_any (ao al bo : Option Addr) (N M R c cl cb : Nat) (x : Off) (w : World) (e1 : x.san = N) (e2 : x.ldn = M) (e3 : x.bkn = R) (hs : Off.Short x 1048576) (hz : SailsAt w ao N x.sa) (hl : LoadsAt w al M x.ld) (hbk : BooksAt w bo R x.bk) :
    Calls Tryz.prog 17 #[.agg #[.slice ao N c, .slice al M cl, .slice bo R cb]] w fun e w' => (∃ a1 c1 a2 c2 a3 c3 L C A B D E, e = .returned (.agg #[.slice a1 N c1, .slice a2 M c2, .slice a3 R c3]) ∧ OwnOff w' w.heap.size (.slice a1 N c1) (.slice a2 M c2) (.slice a3 R c3) N M R x L C A B D E) ∧ Below w.heap.size w w' := by
  obtain ⟨j0, ji, jz0, jz1, jz2⟩ := info_parts Tryz.infoSailing
  obtain ⟨l0, li, lz0, lz1, lz2⟩ := info_parts Tryz.infoLane
  obtain ⟨m0, mi, mz0, mz1, mz2⟩ := info_parts Tryz.infoCabin
  obtain ⟨p0, pi, pz0, pz1, pz2⟩ := info_parts Tryz.infoLoadO
  obtain ⟨r0, ri, rz0, rz1, rz2⟩ := info_parts Tryz.infoBookingO
  obtain ⟨i0, ii, iz0, iz1, iz2⟩ := info_parts Tryz.infoInt
  have HS : Hid (ShortAll N x.sa 1048576) := by have h := hs.1.2; rw [e1] at h; exact h
  have HSL : Hid (LoadsShort M x.ld 1048576) := by have h := hs.2.1.2; rw [e2] at h; exact h
  have HSB : Hid (BooksShort R x.bk 1048576) := by have h := hs.2.2.2; rw [e3] at h; exact h
  have hN : N ≤ 1048576 := by have h := hs.1.1; omega
  have hM : M ≤ 1048576 := by have h := hs.2.1.1; omega
  have hR : R ≤ 1048576 := by have h := hs.2.2.1; omega
  have HZ : Hid (SailsAt w ao N x.sa) := hz
  have HL : Hid (LoadsAt w al M x.ld) := hl
  have HBK : Hid (BooksAt w bo R x.bk) := hbk
  clear hs hz hl hbk e1 e2 e3
  have hb0 : Below w.heap.size w (((w.alloc (.cells #[.slice ao N c, .slice al M cl, .slice bo R cb] 39)).alloc (.cells #[.slice none 0 0, .slice none 0 0, .slice none 0 0] 39)).alloc (.cells #[.slice none 0 0, .slice none 0 0, .slice none 0 0] 39)) := push (push (push (Below.refl _ _) _) _) _
  have bO : (((w.alloc (.cells #[.slice ao N c, .slice al M cl, .slice bo R cb] 39)).alloc (.cells #[.slice none 0 0, .slice none 0 0, .slice none 0 0] 39)).alloc (.cells #[.slice none 0 0, .slice none 0 0, .slice none 0 0] 39)).heap[w.heap.size]? = some (.cells #[.slice ao N c, .slice al M cl, .slice bo R cb] 39 (0, 0)) := blk_alloc (blk_alloc (heap_alloc_new w _) _) _
  have bR : (((w.alloc (.cells #[.slice ao N c, .slice al M cl, .slice bo R cb] 39)).alloc (.cells #[.slice none 0 0, .slice none 0 0, .slice none 0 0] 39)).alloc (.cells #[.slice none 0 0, .slice none 0 0, .slice none 0 0] 39)).heap[w.heap.size + 1]? = some (.cells #[.slice none 0 0, .slice none 0 0, .slice none 0 0] 39 (0, 0)) := blk_alloc (new2 w _ _) _
  have bQ : (((w.alloc (.cells #[.slice ao N c, .slice al M cl, .slice bo R cb] 39)).alloc (.cells #[.slice none 0 0, .slice none 0 0, .slice none 0 0] 39)).alloc (.cells #[.slice none 0 0, .slice none 0 0, .slice none 0 0] 39)).heap[w.heap.size + 1 + 1]? = some (.cells #[.slice none 0 0, .slice none 0 0, .slice none 0 0] 39 (0, 0)) := by simpa using heap_alloc_new ((w.alloc _).alloc _) _
  go_enter Tryz.func17, Tryz.ntmps17
  go_wp2
  generalize ((w.alloc (.cells #[.slice ao N c, .slice al M cl, .slice bo R cb] 39)).alloc (.cells #[.slice none 0 0, .slice none 0 0, .slice none 0 0] 39)).alloc (.cells #[.slice none 0 0, .slice none 0 0, .slice none 0 0] 39) = V at hb0 bO bR bQ ⊢
  have HBO : Hid (V.heap[w.heap.size]? = some (.cells #[.slice ao N c, .slice al M cl, .slice bo R cb] 39 (0, 0))) := bO
  have HBR : Hid (V.heap[w.heap.size + 1]? = some (.cells #[.slice none 0 0, .slice none 0 0, .slice none 0 0] 39 (0, 0))) := bR
  have hQV : w.heap.size + 1 + 1 < V.heap.size := blk_lt bQ
  go_loopw [5, 14] (fun _ i wr => ∃ (k : Nat) (v : Value) (L C : Nat → Value), k ≤ N ∧ i = .int .i64 k ∧ wr.heap[w.heap.size + 1 + 1]? = some (.cells #[v, .slice none 0 0, .slice none 0 0] 39 (0, 0)) ∧ OwnSails wr V.heap.size v k x.sa L C ∧ Kept V wr (fun b => b = w.heap.size + 1 + 1 ∨ V.heap.size ≤ b)) (fun _ i _ => N - (intOf i).toNat)
  case atStart => exact ⟨0, .slice none 0 0, fun _ => .slice none 0 0, fun _ => .slice none 0 0, Nat.zero_le _, rfl, bQ, OwnSails.nil _ _ _ _ _, Kept.refl _ _⟩
  case round =>
    clear bO bR bQ
    obtain ⟨k, v, L, C, hk, rfl, hQ, hO, hkp⟩ := hrel
    have hbel : Below w.heap.size w wr := Kept.below hb0 hb0.size hkp (fun b e => by have e : b = w.heap.size + 1 + 1 ∨ V.heap.size ≤ b := e; have := hb0.size; omega)
    have hszV := hkp.size
    by_cases hlt : k < N
    · obtain ⟨b, off, la, lc, ca, cc, rfl, h0, h1, h2, h3, h4, h5, h6, h7, h8, h9, h10, h11⟩ := HZ.out k hlt
      obtain ⟨s, hsd⟩ : ∃ s, s = x.sa k := ⟨_, rfl⟩
      obtain ⟨_, _, s3, s4⟩ := HS.out k hlt
      rw [← hsd] at h0 h1 h2 h3 h4 h5 h6 h7 h8 h9 h10 h11 s3 s4
      have HSD : Hid (s = x.sa k) := hsd
      have hb := World.block_lt_of_cell? w _ h1
      have c0 := (hbel.cell (p := ⟨b, off + k * 8, none⟩) hb).trans h0
      have c1 := (hbel.cell (p := ⟨b, off + k * 8 + 1, none⟩) hb).trans h1
      have c2 := (hbel.cell (p := ⟨b, off + k * 8 + 2, none⟩) hb).trans h2
      have c3 := (hbel.cell (p := ⟨b, off + k * 8 + 3, none⟩) hb).trans h3
      have c4 := (hbel.cell (p := ⟨b, off + k * 8 + 4, none⟩) hb).trans h4
      have c5 := (hbel.cell (p := ⟨b, off + k * 8 + 5, none⟩) hb).trans h5
      have c6 := (hbel.cell (p := ⟨b, off + k * 8 + 6, none⟩) hb).trans h6
      have c7 := (hbel.cell (p := ⟨b, off + k * 8 + 7, none⟩) hb).trans h7
      have HLA : Hid (PairsAt w la s.la ∧ SliceOk la s.la.n lc) := ⟨h8, h10⟩
      have HCA : Hid (PairsAt w ca s.ca ∧ SliceOk ca s.ca.n cc) := ⟨h9, h11⟩
      clear h0 h1 h2 h3 h4 h5 h6 h7 h8 h9 h10 h11 hsd
      have HLM : Hid (∀ i, i < k → (∀ b, (L i).ownBlock = some b → b < wr.heap.size) ∧ (∀ b, (C i).ownBlock = some b → b < wr.heap.size)) := fun i hi => ⟨fun b hb => ((hO.la i hi).lt b hb).2, fun b hb => ((hO.ca i hi).lt b hb).2⟩
      have hbx : Below wr.heap.size wr (wr.alloc (.cells #[.int .i64 s.id, .string s.fr, .string s.dst, .int .i64 s.dep, .int .i64 s.arr, .slice la s.la.n lc, .slice ca s.ca.n cc, .int .i64 s.most] 54)) := push (Below.refl _ _) _
      have bX := heap_alloc_new wr (.cells #[.int .i64 s.id, .string s.fr, .string s.dst, .int .i64 s.dep, .int .i64 s.arr, .slice la s.la.n lc, .slice ca s.ca.n cc, .int .i64 s.most] 54)
      have bXe := blk_alloc bX (.cells #[] 122)
      have hbe : Below wr.heap.size wr ((wr.alloc (.cells #[.int .i64 s.id, .string s.fr, .string s.dst, .int .i64 s.dep, .int .i64 s.arr, .slice la s.la.n lc, .slice ca s.ca.n cc, .int .i64 s.most] 54)).alloc (.cells #[] 122)) := push hbx _
      have x5 := blk_cell bXe 5 _ rfl
      have hE : ((wr.alloc (.cells #[.int .i64 s.id, .string s.fr, .string s.dst, .int .i64 s.dep, .int .i64 s.arr, .slice la s.la.n lc, .slice ca s.ca.n cc, .int .i64 s.most] 54)).alloc (.cells #[] 122)).ownsRow (wr.heap.size + 1) 122 2 (.slice (some ⟨wr.heap.size + 1, 0, none⟩) 0 0) 0 [] := ⟨rfl, .inr ⟨wr.heap.size + 1, 0, #[], rfl, Nat.le_refl _, new2 wr _ _, Nat.le_refl _, Nat.zero_le _, rfl, rfl⟩⟩
      have HE : Hid _ := hE
      have HCL : Hid (∀ ad', la = some ad' → ∀ j u, (pairRow s.la)[j]? = some u → ((wr.alloc (.cells #[.int .i64 s.id, .string s.fr, .string s.dst, .int .i64 s.dep, .int .i64 s.arr, .slice la s.la.n lc, .slice ca s.ca.n cc, .int .i64 s.most] 54)).alloc (.cells #[] 122)).cell? (ad'.add j) = some u) := pairs_cells (HLA.out.1.below (after hbel hbe))
      have HNL : Hid (la = none → s.la.n = 0 ∧ lc = 0) := HLA.out.2.2.2
      clear hE
      go_upto_region 6 with (first | (at_builtin; refine wpList_append_any _ (by rfl) (.tmp 18) (.tmp 20) 51 (by rfl) (wr.heap.size + 1) 122 l0 (.agg #[.int .i64 0, .int .i64 0]) 2 16 Tryz.underlying51 li lz0 lz1 lz2 rfl (by decide) _ 0 [] (by rfl) HE.out la s.la.n lc (pairRow s.la) (by rfl) HNL.out (pairRow_length _) HCL.out (pairRow_one _) (by unfold maxLen; omega) (by omega) (by simp) ?_; intro v3 w3 ho3 hg3; rw [Nat.zero_add, List.nil_append] at ho3; obtain ⟨a3, e3, rfl, _⟩ := own_form ho3; have bX3 := (kept_row hg3).blk bXe (by simp [Value.ownBlock]); have u5 := blk_cell bX3 5 _ rfl; have f5 := blk_free bX3 5; have hb3 : Below wr.heap.size wr w3 := hbe.grown hg3 hbe.size (fun j hj => by simp [Value.ownBlock] at hj; omega)))
      have bX4 := sbox_5 bX3 (.slice a3 s.la.n e3)
      have hb4 : Below wr.heap.size wr (w3.setCell ⟨wr.heap.size, 5, none⟩ (.slice a3 s.la.n e3)) := hb3.setCell (p := ⟨wr.heap.size, 5, none⟩) (Nat.le_refl _) _
      have hl4 : (w3.setCell ⟨wr.heap.size, 5, none⟩ (.slice a3 s.la.n e3)).ownsRow (wr.heap.size + 1) 122 2 (.slice a3 s.la.n e3) s.la.n (pairRow s.la) := own_set ho3 (a := ⟨wr.heap.size, 5, none⟩) (by show wr.heap.size < wr.heap.size + 1; omega) _
      generalize w3.setCell ⟨wr.heap.size, 5, none⟩ (.slice a3 s.la.n e3) = W4 at bX4 hb4 hl4 ⊢
      have HL4 : Hid (W4.ownsRow (wr.heap.size + 1) 122 2 (.slice a3 s.la.n e3) s.la.n (pairRow s.la)) := hl4
      clear bX3 u5 f5 hb3 ho3 hg3 x5 hbx bX bXe hbe HE HCL HNL hl4 c0 c1 c2 c3 c4 c5 c6 c7
      have bXe := blk_alloc bX4 (.cells #[] 124)
      have hbe : Below wr.heap.size wr (W4.alloc (.cells #[] 124)) := push hb4 _
      have hbe4 : Below W4.heap.size W4 (W4.alloc (.cells #[] 124)) := push (Below.refl _ _) _
      have x6 := blk_cell bXe 6 _ rfl
      have hlt4 : wr.heap.size < W4.heap.size := blk_lt bX4
      have hE : (W4.alloc (.cells #[] 124)).ownsRow W4.heap.size 124 2 (.slice (some ⟨W4.heap.size, 0, none⟩) 0 0) 0 [] := ⟨rfl, .inr ⟨W4.heap.size, 0, #[], rfl, Nat.le_refl _, heap_alloc_new W4 _, Nat.le_refl _, Nat.zero_le _, rfl, rfl⟩⟩
      have HE : Hid _ := hE
      have HCL : Hid (∀ ad', ca = some ad' → ∀ j u, (pairRow s.ca)[j]? = some u → (W4.alloc (.cells #[] 124)).cell? (ad'.add j) = some u) := pairs_cells (HCA.out.1.below (after hbel hbe))
      have HNL : Hid (ca = none → s.ca.n = 0 ∧ cc = 0) := HCA.out.2.2.2
      clear hE
      go_upto_region 7 with (first | (at_builtin; refine wpList_append_any _ (by rfl) (.tmp 23) (.tmp 25) 52 (by rfl) W4.heap.size 124 m0 (.agg #[.int .i64 0, .int .i64 0]) 2 16 Tryz.underlying52 mi mz0 mz1 mz2 rfl (by decide) _ 0 [] (by rfl) HE.out ca s.ca.n cc (pairRow s.ca) (by rfl) HNL.out (pairRow_length _) HCL.out (pairRow_one _) (by unfold maxLen; omega) (by omega) (by simp) ?_; intro v6 w6 ho6 hg6; rw [Nat.zero_add, List.nil_append] at ho6; obtain ⟨a6, e6, rfl, _⟩ := own_form ho6; have bX6 := (kept_row hg6).blk bXe (by simp [Value.ownBlock]; omega); have u6 := blk_cell bX6 6 _ rfl; have f6 := blk_free bX6 6; have hb6 : Below W4.heap.size W4 w6 := hbe4.grown hg6 hbe4.size (fun j hj => by simp [Value.ownBlock] at hj; omega)))
      have bX7 := sbox_6 bX6 (.slice a6 s.ca.n e6)
      have hb7 : Below wr.heap.size wr (w6.setCell ⟨wr.heap.size, 6, none⟩ (.slice a6 s.ca.n e6)) := (after hb4 hb6).setCell (p := ⟨wr.heap.size, 6, none⟩) (Nat.le_refl _) _
      have hl7 : (w6.setCell ⟨wr.heap.size, 6, none⟩ (.slice a6 s.ca.n e6)).ownsRow (wr.heap.size + 1) 122 2 (.slice a3 s.la.n e3) s.la.n (pairRow s.la) := own_set (own_below hb6 HL4.out) (a := ⟨wr.heap.size, 6, none⟩) (by show wr.heap.size < wr.heap.size + 1; omega) _
      have hc7 : (w6.setCell ⟨wr.heap.size, 6, none⟩ (.slice a6 s.ca.n e6)).ownsRow (wr.heap.size + 1) 124 2 (.slice a6 s.ca.n e6) s.ca.n (pairRow s.ca) := own_base (own_set ho6 (a := ⟨wr.heap.size, 6, none⟩) (by show wr.heap.size < W4.heap.size; omega) _) (by omega)
      generalize w6.setCell ⟨wr.heap.size, 6, none⟩ (.slice a6 s.ca.n e6) = W7 at bX7 hb7 hl7 hc7 ⊢
      clear bX4 bXe bX6 u6 f6 hb6 ho6 hg6 x6 hbe hbe4 HE HCL HNL HL4 hb4
      obtain ⟨av, cv, rfl, _⟩ := own_form hO.row
      have hQ7 := blk_below hQ hb7
      have y0 := blk_cell bX7 0 _ rfl
      have y1 := blk_cell bX7 1 _ rfl
      have y2 := blk_cell bX7 2 _ rfl
      have y3 := blk_cell bX7 3 _ rfl
      have y4 := blk_cell bX7 4 _ rfl
      have y5 := blk_cell bX7 5 _ rfl
      have y6 := blk_cell bX7 6 _ rfl
      have y7 := blk_cell bX7 7 _ rfl
      have q0 := blk_cell hQ7 0 _ rfl
      have hb8 : Below wr.heap.size wr (W7.alloc (.cells #[.int .i64 s.id, .string s.fr, .string s.dst, .int .i64 s.dep, .int .i64 s.arr, .slice a3 s.la.n e3, .slice a6 s.ca.n e6, .int .i64 s.most] 54)) := push hb7 _
      have hbq8 : Below W7.heap.size W7 (W7.alloc (.cells #[.int .i64 s.id, .string s.fr, .string s.dst, .int .i64 s.dep, .int .i64 s.arr, .slice a3 s.la.n e3, .slice a6 s.ca.n e6, .int .i64 s.most] 54)) := push (Below.refl _ _) _
      have hO8 := hO.below hb8
      have hl8 := own_below hbq8 hl7
      have hc8 := own_below hbq8 hc7
      have hQ8 := blk_alloc hQ7 (.cells #[.int .i64 s.id, .string s.fr, .string s.dst, .int .i64 s.dep, .int .i64 s.arr, .slice a3 s.la.n e3, .slice a6 s.ca.n e6, .int .i64 s.most] 54)
      have HNW : Hid (∀ j u, ([.int .i64 s.id, .string s.fr, .string s.dst, .int .i64 s.dep, .int .i64 s.arr, .slice a3 s.la.n e3, .slice a6 s.ca.n e6, .int .i64 s.most] : List Value)[j]? = some u → (W7.alloc (.cells #[.int .i64 s.id, .string s.fr, .string s.dst, .int .i64 s.dep, .int .i64 s.arr, .slice a3 s.la.n e3, .slice a6 s.ca.n e6, .int .i64 s.most] 54)).cell? ((⟨W7.heap.size, 0, none⟩ : Addr).add j) = some u) := World.news_of_block (heap_alloc_new W7 _)
      have HO8 : Hid (OwnSails (W7.alloc (.cells #[.int .i64 s.id, .string s.fr, .string s.dst, .int .i64 s.dep, .int .i64 s.arr, .slice a3 s.la.n e3, .slice a6 s.ca.n e6, .int .i64 s.most] 54)) V.heap.size (.slice av k cv) k x.sa L C) := hO8
      have HLC : Hid ((W7.alloc (.cells #[.int .i64 s.id, .string s.fr, .string s.dst, .int .i64 s.dep, .int .i64 s.arr, .slice a3 s.la.n e3, .slice a6 s.ca.n e6, .int .i64 s.most] 54)).ownsRow (wr.heap.size + 1) 122 2 (.slice a3 s.la.n e3) s.la.n (pairRow s.la) ∧ (W7.alloc (.cells #[.int .i64 s.id, .string s.fr, .string s.dst, .int .i64 s.dep, .int .i64 s.arr, .slice a3 s.la.n e3, .slice a6 s.ca.n e6, .int .i64 s.most] 54)).ownsRow (wr.heap.size + 1) 124 2 (.slice a6 s.ca.n e6) s.ca.n (pairRow s.ca)) := ⟨hl8, hc8⟩
      have hszq : V.heap.size ≤ (W7.alloc (.cells #[.int .i64 s.id, .string s.fr, .string s.dst, .int .i64 s.dep, .int .i64 s.arr, .slice a3 s.la.n e3, .slice a6 s.ca.n e6, .int .i64 s.most] 54)).heap.size := Nat.le_trans hszV hb8.size
      clear hO8 hl8 hc8 hl7 hc7
      go_wp2_with (first | (at_builtin; refine wpList_append_any _ (by rfl) (.tmp 29) (.tmp 31) 36 (by rfl) V.heap.size 54 j0 (.agg #[.int .i64 0, .string ⟨#[]⟩, .string ⟨#[]⟩, .int .i64 0, .int .i64 0, .slice none 0 0, .slice none 0 0, .int .i64 0]) 8 112 Tryz.underlying36 ji jz0 jz1 jz2 rfl (by decide) _ k _ (by rfl) HO8.out.row (some ⟨W7.heap.size, 0, none⟩) 1 1 [.int .i64 s.id, .string s.fr, .string s.dst, .int .i64 s.dep, .int .i64 s.arr, .slice a3 s.la.n e3, .slice a6 s.ca.n e6, .int .i64 s.most] (by rfl) (fun h => (by cases h)) (by rfl) (fun ad e => by cases e; exact HNW.out) (by intro u hu; simp at hu; rcases hu with rfl | rfl | rfl | rfl | rfl | rfl | rfl | rfl <;> rfl) (by unfold maxLen; omega) (by omega) hszq ?_; intro v9 w9 ho9 hg9; obtain ⟨a9, e9, rfl, _⟩ := own_form ho9; have hQ9 := (kept_row hg9).blk hQ8 (fun e => by have := (HO8.out.row.lt _ e).1; omega); have r9 := blk_cell hQ9 0 _ rfl; have f9 := blk_free hQ9 0))
      have hO9 : OwnSails w9 V.heap.size (.slice a9 (k + 1) e9) (k + 1) x.sa (atV L k (.slice a3 s.la.n e3)) (atV C k (.slice a6 s.ca.n e6)) :=
        HO8.out.snoc (lim := wr.heap.size + 1) (fun i hi => ⟨fun b hb => by have := (HLM.out i hi).1 b hb; omega, fun b hb => by have := (HLM.out i hi).2 b hb; omega⟩) (by rw [← HSD.out]; exact HLC.out.1) (by rw [← HSD.out]; exact HLC.out.2) (by omega) hg9 (by rw [← HSD.out]; exact ho9)
      have hkq : Kept w9 (w9.setCell ⟨w.heap.size + 1 + 1, 0, none⟩ (.slice a9 (k + 1) e9)) (fun b => b = w.heap.size + 1 + 1) := (Kept.refl _ (fun b => b = w.heap.size + 1 + 1)).set (a := ⟨w.heap.size + 1 + 1, 0, none⟩) rfl _
      have HF1 : Hid (OwnSails (w9.setCell ⟨w.heap.size + 1 + 1, 0, none⟩ (.slice a9 (k + 1) e9)) V.heap.size (.slice a9 (k + 1) e9) (k + 1) x.sa (atV L k (.slice a3 s.la.n e3)) (atV C k (.slice a6 s.ca.n e6))) := hO9.kept hkq (fun b e => by have e : b = w.heap.size + 1 + 1 := e; omega)
      have HF2 : Hid (Kept V (w9.setCell ⟨w.heap.size + 1 + 1, 0, none⟩ (.slice a9 (k + 1) e9)) (fun b => b = w.heap.size + 1 + 1 ∨ V.heap.size ≤ b)) :=
        (hkp.trans (Kept.of_below hb8)).trans (((kept_row hg9).mono (fun b e => .inr (HO8.out.row.lt b e).1)).trans (hkq.mono (fun b e => .inl e)))
      have HF3 := off_at0 hQ9 (.slice a9 (k + 1) e9)
      have HF3 : Hid _ := HF3
      go_wp2
      go_roundw
      case rel => exact ⟨k + 1, _, _, _, by omega, by go_num, HF3.out, HF1.out, HF2.out⟩
      case measure => simp [intOf]; omega
    · obtain rfl : k = N := by omega
      have o1 := blk_cell (hkp.blk HBO.out (fun e => by have e : w.heap.size = w.heap.size + 1 + 1 ∨ V.heap.size ≤ w.heap.size := e; omega)) 1 _ rfl
      have HS1 : Hid (OwSt w V wr v (.slice none 0 0) (.slice none 0 0) k 0 0 x L C (fun _ => .slice none 0 0) (fun _ => .slice none 0 0) (fun _ => .slice none 0 0) (fun _ => .slice none 0 0)) := ⟨hQ, ⟨hO, OwnLds.nil _ _ _ _ _ _, OwnBks.nil _ _ _ _⟩, hkp⟩
      obtain ⟨av, cv, rfl, _⟩ := own_form hO.row
      clear hlt hbel hO hQ hkp hszV hk HZ HS
      go_wp2
      clear o1
      go_loopw [7, 38] (fun _ i wz => ∃ (t : Nat) (lv : Value) (A B D : Nat → Value), t ≤ M ∧ i = .int .i64 t ∧ Hid (OwSt w V wz (.slice av k cv) lv (.slice none 0 0) k t 0 x L C A B D (fun _ => .slice none 0 0))) (fun _ i _ => M - (intOf i).toNat)
      case atStart => exact ⟨0, _, _, _, _, Nat.zero_le _, rfl, HS1.out⟩
      case round =>
        clear HS1
        obtain ⟨t, lv, A, B, D, ht, rfl, HST⟩ := hrel
        have hbel : Below w.heap.size w wr := Kept.below hb0 hb0.size HST.out.kp (fun b e => by have e : b = w.heap.size + 1 + 1 ∨ V.heap.size ≤ b := e; have := hb0.size; omega)
        obtain ⟨ae, ce, rfl, _⟩ := own_form HST.out.own.ld.row
        by_cases hlt : t < M
        · obtain ⟨Cc, hrc, his⟩ := HL.out
          obtain ⟨b, off, rfl, hc⟩ := hrc t hlt
          obtain ⟨a1', c1', a2', c2', a3', c3', hCt, g1, s1, g2, s2, g3, s3⟩ := his t hlt
          have hsh := HSL.out t hlt
          obtain ⟨z, hz⟩ : ∃ z, z = x.ld t := ⟨_, rfl⟩
          rw [← hz] at hCt g1 s1 g2 s2 g3 s3 hsh
          have HZD : Hid (z = x.ld t) := hz
          rw [hCt] at hc
          have hb := World.block_lt_of_cell? w _ (hc 0 (by decide))
          have c0 : wr.cell? ⟨b, off + t * 3, none⟩ = some (.slice a1' z.stn c1') := (hbel.cell (p := ⟨b, off + t * 3, none⟩) hb).trans (hc 0 (by decide))
          have c1 : wr.cell? ⟨b, off + t * 3 + 1, none⟩ = some (.slice a2' z.ron c2') := (hbel.cell (p := ⟨b, off + t * 3 + 1, none⟩) hb).trans (hc 1 (by decide))
          have c2 : wr.cell? ⟨b, off + t * 3 + 2, none⟩ = some (.slice a3' z.sen c3') := (hbel.cell (p := ⟨b, off + t * 3 + 2, none⟩) hb).trans (hc 2 (by decide))
          have HLD : Hid (Load.Short z 1048576 ∧ (StaysAt w a1' z.stn z.st ∧ SliceOk a1' z.stn c1') ∧ (RoomsAt w a2' z.ron z.ro ∧ SliceOk a2' z.ron c2') ∧ (SeatsAt w a3' z.sen z.se ∧ SliceOk a3' z.sen c3')) := ⟨hsh, ⟨g1, s1⟩, ⟨g2, s2⟩, ⟨g3, s3⟩⟩
          have HBW : Hid (Below w.heap.size w wr) := hbel
          clear hc hCt g1 s1 g2 s2 g3 s3 hsh hz hrc his
          have hbx : Below wr.heap.size wr (wr.alloc (.cells #[.slice a1' z.stn c1', .slice a2' z.ron c2', .slice a3' z.sen c3'] 62)) := push (Below.refl _ _) _
          have bX := heap_alloc_new wr (.cells #[.slice a1' z.stn c1', .slice a2' z.ron c2', .slice a3' z.sen c3'] 62)
          have hQB := blk_alloc HST.out.q (.cells #[.slice a1' z.stn c1', .slice a2' z.ron c2', .slice a3' z.sen c3'] 62)
          as_aux_lemma =>
            go_upto_region 12 with fail
            generalize hbxx : wr.heap.size = bx at bX ⊢
            generalize wr.alloc (.cells #[.slice a1' z.stn c1', .slice a2' z.ron c2', .slice a3' z.sen c3'] 62) = WB at hbx bX hQB ⊢
            rw [← hbxx] at *
            clear c0 c1 c2
            have x0 := blk_cell bX 0 _ rfl
            have x1 := blk_cell bX 1 _ rfl
            have x2 := blk_cell bX 2 _ rfl
            have q1 := blk_cell hQB 1 _ rfl
            have HOB : Hid (OwnOff WB V.heap.size (.slice av k cv) (.slice ae t ce) (.slice none 0 0) k t 0 x L C A B D (fun _ => .slice none 0 0)) := HST.out.own.below hbx
            have HKB : Hid (Kept V WB (fun b => b = w.heap.size + 1 + 1 ∨ V.heap.size ≤ b)) := HST.out.kp.trans (Kept.of_below hbx)
            have hszB : V.heap.size ≤ WB.heap.size := HKB.out.size
            have HLM : Hid (∀ i, i < t → (∀ g, (A i).ownBlock = some g → g < WB.heap.size) ∧ (∀ g, (B i).ownBlock = some g → g < WB.heap.size) ∧ (∀ g, (D i).ownBlock = some g → g < WB.heap.size)) := fun i hi => ⟨fun g hg => ((HOB.out.ld.st i hi).lt g hg).2, fun g hg => ((HOB.out.ld.ro i hi).lt g hg).2, fun g hg => ((HOB.out.ld.se i hi).lt g hg).2⟩
            have HCC : Hid (∀ Z, Below WB.heap.size WB Z → Calls Tryz.prog 56 #[.agg #[.slice a1' z.stn c1', .slice a2' z.ron c2', .slice a3' z.sen c3']] Z fun e w5 => (∃ a1 c1 a2 c2 a3 c3, e = .returned (.agg #[.slice a1 z.stn c1, .slice a2 z.ron c2, .slice a3 z.sen c3]) ∧ Hid (w5.ownsRow WB.heap.size 118 4 (.slice a1 z.stn c1) z.stn (stayList z.st z.stn) ∧ w5.ownsRow WB.heap.size 120 4 (.slice a2 z.ron c2) z.ron (roomList z.ro z.ron) ∧ w5.ownsRow WB.heap.size 126 2 (.slice a3 z.sen c3) z.sen (seatList z.se z.sen))) ∧ Below WB.heap.size WB w5) := fun Z hZ => by
              have hwz := after HBW.out (after hbx hZ)
              refine (l7OwnLoad_any a1' a2' a3' c1' c2' c3' z Z HLD.out.1 (HLD.out.2.1.1.below hwz) (HLD.out.2.2.1.1.below hwz) (HLD.out.2.2.2.1.below hwz) HLD.out.2.1.2 HLD.out.2.2.1.2 HLD.out.2.2.2.2).mono ?_
              rintro e w5 ⟨⟨v1, v2, v3, rfl, o1, o2, o3⟩, hb5⟩
              obtain ⟨a1, c1, rfl, _⟩ := own_form o1
              obtain ⟨a2, c2, rfl, _⟩ := own_form o2
              obtain ⟨a3, c3, rfl, _⟩ := own_form o3
              exact ⟨⟨a1, c1, a2, c2, a3, c3, rfl, own_base o1 hZ.size, own_base o2 hZ.size, own_base o3 hZ.size⟩, after hZ hb5⟩
            clear HST bX hbel
            go_region_law (first
              | (go_simp; go_at_call 56; (with_reducible refine Calls.mono (HCC.out _ ?_) ?_); (focus (repeat (first | exact Below.refl _ _ | refine Below.drew ?_ | refine push ?_ _))); rintro e w5 ⟨⟨a1, c1, a2, c2, a3, c3, rfl, HO5⟩, hb6⟩; have hQ5 := blk_below hQB hb6; have qq := blk_cell hQ5 1 _ rfl; have qa := blk_cell (blk_alloc hQ5 (.cells #[.slice a1 z.stn c1, .slice a2 z.ron c2, .slice a3 z.sen c3] 62)) 1 _ rfl; have HE5 : Hid (OwnOff (w5.alloc (.cells #[.slice a1 z.stn c1, .slice a2 z.ron c2, .slice a3 z.sen c3] 62)) V.heap.size (.slice av k cv) (.slice ae t ce) (.slice none 0 0) k t 0 x L C A B D (fun _ => .slice none 0 0)) := HOB.out.below (push hb6 _); have hs5 : V.heap.size ≤ (w5.alloc (.cells #[.slice a1 z.stn c1, .slice a2 z.ron c2, .slice a3 z.sen c3] 62)).heap.size := Nat.le_trans hszB (push hb6 _).size; dsimp only)
              | (refine step_append_lies _ (by rfl) (.tmp 43) (.tmp 46) 37 (by rfl) V.heap.size 62 p0 (.agg #[.slice none 0 0, .slice none 0 0, .slice none 0 0]) 3 72 Tryz.underlying37 pi pz0 pz1 pz2 rfl (by decide) _ t (ldRow A B D t) (by rfl) HE5.out.ld.row ⟨w5.heap.size, 0, none⟩ 1 1 [.slice a1 z.stn c1, .slice a2 z.ron c2, .slice a3 z.sen c3] (by rfl) (by rfl) (World.news_of_block (cs := #[.slice a1 z.stn c1, .slice a2 z.ron c2, .slice a3 z.sen c3]) (t := 62) (fr := (0, 0)) (heap_alloc_new w5 _)) (by intro u hu; simp at hu; rcases hu with rfl | rfl | rfl <;> rfl) (by decide) (by unfold maxLen; omega) (by omega) hs5 (w5.heap.size + 1) (by simp) ?_; intro g6 cap6 w6 hown6 hgrow6 hat6 hlt6; have hQ6 := (kept_row hgrow6).blk (blk_alloc hQ5 (.cells #[.slice a1 z.stn c1, .slice a2 z.ron c2, .slice a3 z.sen c3] 62)) (fun e => by have := (HE5.out.ld.row.lt _ e).1; omega); have u1 := blk_cell hQ6 1 _ rfl; have u2 := blk_free hQ6 1))
            all_goals
              have HO6 := HE5.out.load (lim := WB.heap.size) HLM.out (by rw [← HZD.out]; exact own_below (push (Below.refl _ _) _) HO5.out.1) (by rw [← HZD.out]; exact own_below (push (Below.refl _ _) _) HO5.out.2.1) (by rw [← HZD.out]; exact own_below (push (Below.refl _ _) _) HO5.out.2.2) hszB hgrow6 hown6
              have hkq : Kept w6 (w6.setCell ⟨w.heap.size + 1 + 1, 1, none⟩ (.slice (some ⟨g6, 0, none⟩) (t + 1) cap6)) (fun b => b = w.heap.size + 1 + 1) := (Kept.refl _ (fun b => b = w.heap.size + 1 + 1)).set (a := ⟨w.heap.size + 1 + 1, 1, none⟩) rfl _
              have HF1 : Hid (OwSt w V (w6.setCell ⟨w.heap.size + 1 + 1, 1, none⟩ (.slice (some ⟨g6, 0, none⟩) (t + 1) cap6)) _ _ _ k (t + 1) 0 x L C _ _ _ _) := ⟨off_at1 hQ6 (.slice (some ⟨g6, 0, none⟩) (t + 1) cap6), HO6.box hkq hQ6 (by decide), (HKB.out.trans (Kept.of_below (push hb6 _))).trans (((kept_row hgrow6).mono (fun b e => .inr (HE5.out.ld.row.lt b e).1)).trans (hkq.mono (fun b e => .inl e)))⟩
              clear HO6 hkq
              go_wp2
              go_roundw
              case rel => exact ⟨t + 1, _, _, _, _, by omega, by go_num, HF1.out⟩
              case measure => simp [intOf]; omega
        · obtain rfl : t = M := by omega
          have o2 := blk_cell (HST.out.kp.blk HBO.out (fun e => by have e : w.heap.size = w.heap.size + 1 + 1 ∨ V.heap.size ≤ w.heap.size := e; omega)) 2 _ rfl
          clear hlt hbel ht HL HSL
          go_wp2
          clear o2
          go_loopw [9, 53] (fun _ i wz => ∃ (r : Nat) (bv : Value) (E : Nat → Value), r ≤ R ∧ i = .int .i64 r ∧ Hid (OwSt w V wz (.slice av k cv) (.slice ae t ce) bv k t r x L C A B D E)) (fun _ i _ => R - (intOf i).toNat)
          case atStart => exact ⟨0, _, _, Nat.zero_le _, rfl, HST.out⟩
          case round =>
            clear HST
            obtain ⟨r, bv, E, hr, rfl, HST⟩ := hrel
            have hbel : Below w.heap.size w wr := Kept.below hb0 hb0.size HST.out.kp (fun b e => by have e : b = w.heap.size + 1 + 1 ∨ V.heap.size ≤ b := e; have := hb0.size; omega)
            obtain ⟨ab, cbb, rfl, _⟩ := own_form HST.out.own.bk.row
            by_cases hlt : r < R
            · obtain ⟨Cc, hrc, his⟩ := HBK.out
              obtain ⟨b, off, rfl, hc⟩ := hrc r hlt
              obtain ⟨lg', lc', hCt, g1, s1⟩ := his r hlt
              have hsh := HSB.out r hlt
              obtain ⟨y, hy⟩ : ∃ y, y = x.bk r := ⟨_, rfl⟩
              rw [← hy] at hCt g1 s1 hsh
              have HYD : Hid (y = x.bk r) := hy
              rw [hCt] at hc
              have hb := World.block_lt_of_cell? w _ (hc 0 (by decide))
              have c0 : wr.cell? ⟨b, off + r * 13, none⟩ = some (.int .i64 y.name) := (hbel.cell (p := ⟨b, off + r * 13, none⟩) hb).trans (hc 0 (by decide))
              have c1 : wr.cell? ⟨b, off + r * 13 + 1, none⟩ = some (.int .i64 y.who) := (hbel.cell (p := ⟨b, off + r * 13 + 1, none⟩) hb).trans (hc 1 (by decide))
              have c2 : wr.cell? ⟨b, off + r * 13 + 2, none⟩ = some (.string y.own) := (hbel.cell (p := ⟨b, off + r * 13 + 2, none⟩) hb).trans (hc 2 (by decide))
              have c3 : wr.cell? ⟨b, off + r * 13 + 3, none⟩ = some (.slice lg' y.lgn lc') := (hbel.cell (p := ⟨b, off + r * 13 + 3, none⟩) hb).trans (hc 3 (by decide))
              have c4 : wr.cell? ⟨b, off + r * 13 + 4, none⟩ = some (.int .i64 y.pe) := (hbel.cell (p := ⟨b, off + r * 13 + 4, none⟩) hb).trans (hc 4 (by decide))
              have c5 : wr.cell? ⟨b, off + r * 13 + 5, none⟩ = some (.int .i64 y.len) := (hbel.cell (p := ⟨b, off + r * 13 + 5, none⟩) hb).trans (hc 5 (by decide))
              have c6 : wr.cell? ⟨b, off + r * 13 + 6, none⟩ = some (.int .i64 y.hei) := (hbel.cell (p := ⟨b, off + r * 13 + 6, none⟩) hb).trans (hc 6 (by decide))
              have c7 : wr.cell? ⟨b, off + r * 13 + 7, none⟩ = some (.int .i64 y.cl) := (hbel.cell (p := ⟨b, off + r * 13 + 7, none⟩) hb).trans (hc 7 (by decide))
              have c8 : wr.cell? ⟨b, off + r * 13 + 8, none⟩ = some (.bool y.all) := (hbel.cell (p := ⟨b, off + r * 13 + 8, none⟩) hb).trans (hc 8 (by decide))
              have c9 : wr.cell? ⟨b, off + r * 13 + 9, none⟩ = some (.int .i64 y.be) := (hbel.cell (p := ⟨b, off + r * 13 + 9, none⟩) hb).trans (hc 9 (by decide))
              have c10 : wr.cell? ⟨b, off + r * 13 + 10, none⟩ = some (.int .i64 y.state) := (hbel.cell (p := ⟨b, off + r * 13 + 10, none⟩) hb).trans (hc 10 (by decide))
              have c11 : wr.cell? ⟨b, off + r * 13 + 11, none⟩ = some (.int .i64 y.unt) := (hbel.cell (p := ⟨b, off + r * 13 + 11, none⟩) hb).trans (hc 11 (by decide))
              have c12 : wr.cell? ⟨b, off + r * 13 + 12, none⟩ = some (.int .i64 y.price) := (hbel.cell (p := ⟨b, off + r * 13 + 12, none⟩) hb).trans (hc 12 (by decide))
              have hlg : y.lgn ≤ 1048576 := hsh.2
              have HLG : Hid (IntsAt w lg' y.lgn y.lg ∧ SliceOk lg' y.lgn lc') := ⟨g1, s1⟩
              clear hc hCt g1 s1 hsh hy hrc his
              have hbx : Below wr.heap.size wr (wr.alloc (.cells #[.int .i64 y.name, .int .i64 y.who, .string y.own, .slice lg' y.lgn lc', .int .i64 y.pe, .int .i64 y.len, .int .i64 y.hei, .int .i64 y.cl, .bool y.all, .int .i64 y.be, .int .i64 y.state, .int .i64 y.unt, .int .i64 y.price] 72)) := push (Below.refl _ _) _
              have bX := heap_alloc_new wr (.cells #[.int .i64 y.name, .int .i64 y.who, .string y.own, .slice lg' y.lgn lc', .int .i64 y.pe, .int .i64 y.len, .int .i64 y.hei, .int .i64 y.cl, .bool y.all, .int .i64 y.be, .int .i64 y.state, .int .i64 y.unt, .int .i64 y.price] 72)
              have bXe := blk_alloc bX (.cells #[] 3)
              have hbe : Below wr.heap.size wr ((wr.alloc (.cells #[.int .i64 y.name, .int .i64 y.who, .string y.own, .slice lg' y.lgn lc', .int .i64 y.pe, .int .i64 y.len, .int .i64 y.hei, .int .i64 y.cl, .bool y.all, .int .i64 y.be, .int .i64 y.state, .int .i64 y.unt, .int .i64 y.price] 72)).alloc (.cells #[] 3)) := push hbx _
              have x3 := blk_cell bXe 3 _ rfl
              have HE : Hid (((wr.alloc (.cells #[.int .i64 y.name, .int .i64 y.who, .string y.own, .slice lg' y.lgn lc', .int .i64 y.pe, .int .i64 y.len, .int .i64 y.hei, .int .i64 y.cl, .bool y.all, .int .i64 y.be, .int .i64 y.state, .int .i64 y.unt, .int .i64 y.price] 72)).alloc (.cells #[] 3)).ownsRow (wr.heap.size + 1) 3 1 (.slice (some ⟨wr.heap.size + 1, 0, none⟩) 0 0) 0 []) := ⟨rfl, .inr ⟨wr.heap.size + 1, 0, #[], rfl, Nat.le_refl _, new2 wr _ _, Nat.le_refl _, Nat.zero_le _, rfl, rfl⟩⟩
              have HCL : Hid (∀ ad', lg' = some ad' → ∀ j u, (intList y.lg y.lgn)[j]? = some u → ((wr.alloc (.cells #[.int .i64 y.name, .int .i64 y.who, .string y.own, .slice lg' y.lgn lc', .int .i64 y.pe, .int .i64 y.len, .int .i64 y.hei, .int .i64 y.cl, .bool y.all, .int .i64 y.be, .int .i64 y.state, .int .i64 y.unt, .int .i64 y.price] 72)).alloc (.cells #[] 3)).cell? (ad'.add j) = some u) := ints_cellsO (HLG.out.1.below (after hbel hbe))
              have HNL : Hid (lg' = none → y.lgn = 0 ∧ lc' = 0) := HLG.out.2.2.2
              have HLM : Hid (∀ i, i < r → ∀ b, (E i).ownBlock = some b → b < wr.heap.size + 1) := fun i hi g hg => by have := ((HST.out.own.bk.legs i hi).lt g hg).2; omega
              as_aux_lemma =>
                go_upto_region 18 with (first | (at_builtin; refine wpList_append_any _ (by rfl) (.tmp 57) (.tmp 59) 31 (by rfl) (wr.heap.size + 1) 3 i0 (.int .i64 0) 1 8 Tryz.underlying31 ii iz0 iz1 iz2 rfl (by decide) _ 0 [] (by rfl) HE.out lg' y.lgn lc' (intList y.lg y.lgn) (by rfl) HNL.out (by rw [intList_length, Nat.mul_one]) HCL.out (intList_one _ _) (by unfold maxLen; omega) (by omega) (by simp) ?_; intro v3 w3 ho3 hg3; rw [Nat.zero_add, List.nil_append] at ho3; obtain ⟨a3, e3, rfl, _⟩ := own_form ho3; have bX3 := (kept_row hg3).blk bXe (by simp [Value.ownBlock]); have v5 := blk_cell bX3 3 _ rfl; have f5 := blk_free bX3 3; have hb3 : Below wr.heap.size wr w3 := hbe.grown hg3 hbe.size (fun j hj => by simp [Value.ownBlock] at hj; omega)))
                have bX4 := bbox_3 bX3 (.slice a3 y.lgn e3)
                have hb4 : Below wr.heap.size wr (w3.setCell ⟨wr.heap.size, 3, none⟩ (.slice a3 y.lgn e3)) := hb3.setCell (p := ⟨wr.heap.size, 3, none⟩) (Nat.le_refl _) _
                have HL4 : Hid ((w3.setCell ⟨wr.heap.size, 3, none⟩ (.slice a3 y.lgn e3)).ownsRow (wr.heap.size + 1) 3 1 (.slice a3 y.lgn e3) y.lgn (intList y.lg y.lgn)) := own_set ho3 (a := ⟨wr.heap.size, 3, none⟩) (by show wr.heap.size < wr.heap.size + 1; omega) _
                generalize w3.setCell ⟨wr.heap.size, 3, none⟩ (.slice a3 y.lgn e3) = W4 at bX4 hb4 HL4 ⊢
                clear bX3 v5 f5 hb3 ho3 hg3 x3 hbx bX bXe hbe HE HCL HNL c0 c1 c2 c3 c4 c5 c6 c7 c8 c9 c10 c11 c12
                have hQ4 := blk_below HST.out.q hb4
                have y0 := blk_cell bX4 0 _ rfl
                have y1 := blk_cell bX4 1 _ rfl
                have y2 := blk_cell bX4 2 _ rfl
                have y3 := blk_cell bX4 3 _ rfl
                have y4 := blk_cell bX4 4 _ rfl
                have y5 := blk_cell bX4 5 _ rfl
                have y6 := blk_cell bX4 6 _ rfl
                have y7 := blk_cell bX4 7 _ rfl
                have y8 := blk_cell bX4 8 _ rfl
                have y9 := blk_cell bX4 9 _ rfl
                have y10 := blk_cell bX4 10 _ rfl
                have y11 := blk_cell bX4 11 _ rfl
                have y12 := blk_cell bX4 12 _ rfl
                have q2 := blk_cell hQ4 2 _ rfl
                have hb8 : Below wr.heap.size wr (W4.alloc (.cells #[.int .i64 y.name, .int .i64 y.who, .string y.own, .slice a3 y.lgn e3, .int .i64 y.pe, .int .i64 y.len, .int .i64 y.hei, .int .i64 y.cl, .bool y.all, .int .i64 y.be, .int .i64 y.state, .int .i64 y.unt, .int .i64 y.price] 72)) := push hb4 _
                have HO8 : Hid (OwnOff (W4.alloc (.cells #[.int .i64 y.name, .int .i64 y.who, .string y.own, .slice a3 y.lgn e3, .int .i64 y.pe, .int .i64 y.len, .int .i64 y.hei, .int .i64 y.cl, .bool y.all, .int .i64 y.be, .int .i64 y.state, .int .i64 y.unt, .int .i64 y.price] 72)) V.heap.size (.slice av k cv) (.slice ae t ce) (.slice ab r cbb) k t r x L C A B D E) := HST.out.own.below hb8
                have HL8 : Hid ((W4.alloc (.cells #[.int .i64 y.name, .int .i64 y.who, .string y.own, .slice a3 y.lgn e3, .int .i64 y.pe, .int .i64 y.len, .int .i64 y.hei, .int .i64 y.cl, .bool y.all, .int .i64 y.be, .int .i64 y.state, .int .i64 y.unt, .int .i64 y.price] 72)).ownsRow (wr.heap.size + 1) 3 1 (.slice a3 y.lgn e3) y.lgn (intList y.lg y.lgn)) := own_below (push (Below.refl _ _) _) HL4.out
                have hQ8 := blk_alloc hQ4 (.cells #[.int .i64 y.name, .int .i64 y.who, .string y.own, .slice a3 y.lgn e3, .int .i64 y.pe, .int .i64 y.len, .int .i64 y.hei, .int .i64 y.cl, .bool y.all, .int .i64 y.be, .int .i64 y.state, .int .i64 y.unt, .int .i64 y.price] 72)
                have HNW : Hid (∀ j u, ([.int .i64 y.name, .int .i64 y.who, .string y.own, .slice a3 y.lgn e3, .int .i64 y.pe, .int .i64 y.len, .int .i64 y.hei, .int .i64 y.cl, .bool y.all, .int .i64 y.be, .int .i64 y.state, .int .i64 y.unt, .int .i64 y.price] : List Value)[j]? = some u → (W4.alloc (.cells #[.int .i64 y.name, .int .i64 y.who, .string y.own, .slice a3 y.lgn e3, .int .i64 y.pe, .int .i64 y.len, .int .i64 y.hei, .int .i64 y.cl, .bool y.all, .int .i64 y.be, .int .i64 y.state, .int .i64 y.unt, .int .i64 y.price] 72)).cell? ((⟨W4.heap.size, 0, none⟩ : Addr).add j) = some u) := World.news_of_block (heap_alloc_new W4 _)
                have HKV : Hid (Kept V wr (fun b => b = w.heap.size + 1 + 1 ∨ V.heap.size ≤ b)) := HST.out.kp
                have hszV := HKV.out.size
                have hszq : V.heap.size ≤ (W4.alloc (.cells #[.int .i64 y.name, .int .i64 y.who, .string y.own, .slice a3 y.lgn e3, .int .i64 y.pe, .int .i64 y.len, .int .i64 y.hei, .int .i64 y.cl, .bool y.all, .int .i64 y.be, .int .i64 y.state, .int .i64 y.unt, .int .i64 y.price] 72)).heap.size := Nat.le_trans hszV hb8.size
                clear HST HL4 hb4
                clear y0 y1 y2 y3 y4 y5 y6 y7 y8 y9 y10 y11 y12
                refine wp_region_lit ?_
                refine Go.Great.wpList_runTo rfl _ rfl _ _ (show _ = _ from rfl) ?_
                refine Go.Great.wpList_readTo rfl _ rfl (.slice ab r cbb) (by simp [execOp, q2, go_sem]) ?_
                refine wpList_load_row rfl _ _ rfl wr.heap.size rfl _ _ (0, 0) _ bX4 Tryz.underlying72 rfl Tryz.sizeBookingO ?_
                refine Go.Great.wpList_buildSliceTo rfl _ _ 1 _ rfl _ rfl _ rfl Tryz.underlying28 #[.int .i64 y.name, .int .i64 y.who, .string y.own, .slice a3 y.lgn e3, .int .i64 y.pe, .int .i64 y.len, .int .i64 y.hei, .int .i64 y.cl, .bool y.all, .int .i64 y.be, .int .i64 y.state, .int .i64 y.unt, .int .i64 y.price] (Eq.trans (congrArg (Program.builtSlice Tryz.prog 72 1) (show _ = [(0, Value.agg #[.int .i64 y.name, .int .i64 y.who, .string y.own, .slice a3 y.lgn e3, .int .i64 y.pe, .int .i64 y.len, .int .i64 y.hei, .int .i64 y.cl, .bool y.all, .int .i64 y.be, .int .i64 y.state, .int .i64 y.unt, .int .i64 y.price])] from by first | (simp [go_sem]; done) | rfl | kernel_rfl)) (builtBook y.name y.who y.pe y.len y.hei y.cl y.be y.state y.unt y.price y.own y.all a3 y.lgn e3)) ?_
                go_wp2_with (first | (at_builtin; refine wpList_append_any _ (by rfl) (.tmp 63) (.tmp 65) 28 (by rfl) V.heap.size 72 r0 (.agg #[.int .i64 0, .int .i64 0, .string ⟨#[]⟩, .slice none 0 0, .int .i64 0, .int .i64 0, .int .i64 0, .int .i64 0, .bool false, .int .i64 0, .int .i64 0, .int .i64 0, .int .i64 0]) 13 128 Tryz.underlying28 ri rz0 rz1 rz2 rfl (by decide) _ r _ (by rfl) HO8.out.bk.row (some ⟨W4.heap.size, 0, none⟩) 1 1 [.int .i64 y.name, .int .i64 y.who, .string y.own, .slice a3 y.lgn e3, .int .i64 y.pe, .int .i64 y.len, .int .i64 y.hei, .int .i64 y.cl, .bool y.all, .int .i64 y.be, .int .i64 y.state, .int .i64 y.unt, .int .i64 y.price] (by rfl) (fun h => (by cases h)) (by rfl) (fun ad e => by cases e; exact HNW.out) (by intro u hu; simp at hu; rcases hu with rfl | rfl | rfl | rfl | rfl | rfl | rfl | rfl | rfl | rfl | rfl | rfl | rfl <;> rfl) (by unfold maxLen; omega) (by omega) hszq ?_; intro v9 w9 ho9 hg9; obtain ⟨a9, e9, rfl, _⟩ := own_form ho9; have hQ9 := (kept_row hg9).blk hQ8 (fun e => by have := (HO8.out.bk.row.lt _ e).1; omega); have r9 := blk_cell hQ9 2 _ rfl; have f9 := blk_free hQ9 2))
                have hO9 := HO8.out.book (lim := wr.heap.size + 1) HLM.out (by rw [← HYD.out]; exact HL8.out) (by omega) hg9 (by unfold bkC; rw [atV_at, ← HYD.out]; exact ho9)
                have hkq : Kept w9 (w9.setCell ⟨w.heap.size + 1 + 1, 2, none⟩ (.slice a9 (r + 1) e9)) (fun b => b = w.heap.size + 1 + 1) := (Kept.refl _ (fun b => b = w.heap.size + 1 + 1)).set (a := ⟨w.heap.size + 1 + 1, 2, none⟩) rfl _
                have HF1 : Hid (OwSt w V (w9.setCell ⟨w.heap.size + 1 + 1, 2, none⟩ (.slice a9 (r + 1) e9)) _ _ _ k t (r + 1) x L C A B D _) := ⟨off_at2 hQ9 (.slice a9 (r + 1) e9), hO9.box hkq hQ9 (by decide), (HKV.out.trans (Kept.of_below hb8)).trans (((kept_row hg9).mono (fun b e => .inr (HO8.out.bk.row.lt b e).1)).trans (hkq.mono (fun b e => .inl e)))⟩
                clear hO9 hkq
                go_wp2
                go_roundw
                case rel => exact ⟨r + 1, _, _, by omega, by go_num, HF1.out⟩
                case measure => simp [intOf]; omega
            · obtain rfl : r = R := by omega
              have hR' := HST.out.kp.blk HBR.out (fun e => by have e : w.heap.size + 1 = w.heap.size + 1 + 1 ∨ V.heap.size ≤ w.heap.size + 1 := e; omega)
              have hQ' := HST.out.q
              have y0 := blk_cell hQ' 0 _ rfl
              have y1 := blk_cell hQ' 1 _ rfl
              have y2 := blk_cell hQ' 2 _ rfl
              have s0 := blk_cell hR' 0 _ rfl
              have s1 := blk_cell hR' 1 _ rfl
              have s2 := blk_cell hR' 2 _ rfl
              have f0 := blk_free hR' 0
              have f1 := blk_free hR' 1
              have f2 := blk_free hR' 2
              have hk3 := keep3 wr (w.heap.size + 1) (.slice av k cv) (.slice ae t ce) (.slice ab r cbb)
              have rF := set3_blk hR' (.slice av k cv) (.slice ae t ce) (.slice ab r cbb)
              have HFO : Hid _ := (HST.out.own.box hk3 hR' (by decide)).lower hb0.size
              have HFB : Hid (Below w.heap.size w _) := Kept.below hbel hbel.size hk3 (fun b e => by have e : b = w.heap.size + 1 := e; omega)
              clear hk3 hQ' hR'
              go_wp2
              have z0 := blk_cell rF 0 _ rfl
              have z1 := blk_cell rF 1 _ rfl
              have z2 := blk_cell rF 2 _ rfl
              exact bodyPost_ret (v := .agg #[.slice av k cv, .slice ae t ce, .slice ab r cbb]) (by simp [results, Tryz.results17, go_sem, z0, z1, z2]) rfl ⟨⟨av, cv, ae, ce, ab, cbb, L, C, A, B, D, E, rfl, HFO.out⟩, HFB.out⟩
end Go.Proofs.YtlelckbeoclhbaaGreat

namespace Go.Proofs.YtlelckbeoclhbaaGreat
open Go.RowKit
section
variable {P : Program} {ops : Array Oper} {Q : Exit → Act → World → Prop} {md : Region.Mode} {S : World → Prop} {z : Nat}
def wpAnyZ (P : Program) (md : Region.Mode) (ops : Array Oper) (Q : Exit → Act → World → Prop) (S : World → Prop) (z : Nat) : Nat → Array Bool → Act → World → Prop
  | 0, listed, a, w => Region.ready md ops listed = [] ∧ Q .normal a w
  | fuel + 1, listed, a, w =>
    (Region.ready md ops listed = [] → Q .normal a w) ∧
    ∀ i ∈ Region.ready md ops listed, wpOp P ops Q i (fun a' w' => (i ≠ z → S w') ∧ wpAnyZ P md ops Q S z fuel (listed.setIfInBounds i true) a' w') a w
theorem wpAny_of_z : ∀ (fuel : Nat) (listed : Array Bool) (a : Act) (w : World), wpAnyZ P md ops Q S z fuel listed a w → wpAny P md ops Q fuel listed a w
  | 0, _, _, _, h => h
  | fuel + 1, _, _, _, h => ⟨h.1, fun i hi => wpOp_mono (fun a' w' h' => wpAny_of_z fuel _ a' w' h'.2) (h.2 i hi)⟩
def waitedZ (md : Region.Mode) (ops : Array Oper) (z : Nat) : Bool :=
  (List.range ops.size).all fun j => j == z || (List.range ops.size).any fun s => decide (j < s) && ((ops[s]?).map fun o => o.after.any fun e => Region.binds md e && e.on == j).getD false
def shutB (md : Region.Mode) (ops : Array Oper) (listed : Array Bool) : Bool :=
  (List.range ops.size).all fun s => !listed.getD s false || ((ops[s]?).map fun o => o.after.all fun e => !Region.binds md e || listed.getD e.on false).getD true
def ShutL (md : Region.Mode) (ops : Array Oper) (listed : Array Bool) : Prop :=
  ∀ s o, ops[s]? = some o → listed.getD s false = true → ∀ e ∈ o.after, Region.binds md e = true → listed.getD e.on false = true
theorem shut_of {listed : Array Bool} (h : shutB md ops listed = true) : ShutL md ops listed := fun s o ho hl e he hb => by
  unfold shutB at h
  rw [List.all_eq_true] at h
  have hlt : s < ops.size := (Array.getElem?_eq_some_iff.1 ho).1
  have h1 := h s (List.mem_range.2 hlt)
  rw [hl, ho] at h1
  simp only [Bool.not_true, Bool.false_or, Option.map_some, Option.getD_some, Array.all_eq_true_iff_forall_mem] at h1
  have h2 := h1 e he
  rw [hb] at h2
  simpa using h2
theorem shut_set {listed : Array Bool} {i : Nat} (h : ShutL md ops listed) (hi : i ∈ Region.ready md ops listed) : ShutL md ops (listed.setIfInBounds i true) := fun s o ho hl e he hb => by
  by_cases c : i = s
  · subst c
    obtain ⟨_, o', ho', hall⟩ := mem_ready.1 hi
    rw [ho] at ho'
    cases ho'
    exact getD_set_true (hall e he hb)
  · rw [getD_set_ne false c] at hl
    exact getD_set_true (h s o ho hl e he hb)
theorem all_listed {listed : Array Bool} (hw : waitedZ md ops z = true) (hz : z + 1 = ops.size) (hs : ShutL md ops listed) (hr : z ∈ Region.ready md ops listed) : ∀ m j, j + m = z → j ≠ z → listed.getD j false = true := by
  intro m
  induction m using Nat.strongRecOn with
  | ind m ih =>
    intro j hjm hj
    unfold waitedZ at hw
    rw [List.all_eq_true] at hw
    have h1 := hw j (List.mem_range.2 (by omega))
    rw [Bool.or_eq_true] at h1
    rcases h1 with h1 | h1
    · exact absurd (by simpa using h1) hj
    · rw [List.any_eq_true] at h1
      obtain ⟨s, hsr, h2⟩ := h1
      rw [Bool.and_eq_true] at h2
      have hjs : j < s := by simpa using h2.1
      have hsl : s < ops.size := List.mem_range.1 hsr
      cases ho : ops[s]? with
      | none => rw [ho] at h2; simp at h2
      | some o =>
        rw [ho] at h2
        simp only [Option.map_some, Option.getD_some, Array.any_eq_true', Bool.and_eq_true] at h2
        obtain ⟨_, e, he, hb, hon⟩ := h2
        have hon : e.on = j := by simpa using hon
        by_cases c : s = z
        · subst c
          obtain ⟨_, o', ho', hall⟩ := mem_ready.1 hr
          rw [ho] at ho'
          cases ho'
          rw [← hon]
          exact hall e he hb
        · have := ih (z - s) (by omega) s (by omega) c
          rw [← hon]
          exact hs s o ho this e he hb
theorem wpAnyZ_first {i : Nat} {oi : Oper} {v : Value} (hi : ops[i]? = some oi) (hiz : i ≠ z) (hw : waitedZ md ops z = true) (hz : z + 1 = ops.size) (hsel : ∀ (j : Nat) (o : Oper) cs b, ops[j]? = some o → o.op ≠ .select cs b)
    (hQ : ∀ c a w, Q (.panic c) (a.put oi.dst v) w → Q (.panic c) a w) :
    ∀ (fuel : Nat) (listed : Array Bool) (a : Act) (w : World), ShutL md ops listed →
      (∀ j oj, ops[j]? = some oj → j ≠ i → listed.getD j true = false → (∀ e ∈ oj.after, Region.binds md e = true → e.on ≠ i) → oi.apart ops oj = true) →
      i ∈ Region.ready md ops listed → YieldsIf P ops S oi v a → S w →
      wpAnyZ P md ops Q S z fuel (listed.setIfInBounds i true) (a.put oi.dst v) w → wpAnyZ P md ops Q S z (fuel + 1) listed a w := by
  intro fuel
  induction fuel with
  | zero =>
    intro listed a w _ _ hr hy hS H
    refine ⟨fun h => (by rw [h] at hr; cases hr), fun j hj => ?_⟩
    by_cases hji : j = i
    · subst hji; exact hy.wpOp hi hS ⟨fun _ => hS, H⟩
    · have := ready_mono hj hji
      rw [H.1] at this
      cases this
  | succ fuel ih =>
    intro listed a w hsh hfree hr hy hS H
    refine ⟨fun h => (by rw [h] at hr; cases hr), fun j hj => ?_⟩
    by_cases hji : j = i
    · subst hji; exact hy.wpOp hi hS ⟨fun _ => hS, H⟩
    · have hjz : j ≠ z := fun e => by
        subst e
        have hlt : i < ops.size := (Array.getElem?_eq_some_iff.1 hi).1
        have h1 := all_listed hw hz hsh hj (j - i) i (by omega) hiz
        have h0 := (mem_ready.1 hr).1
        rcases Nat.lt_or_ge i listed.size with h' | h'
        · simp [h'] at h0 h1; rw [h0] at h1; cases h1
        · simp [Array.getElem?_eq_none h'] at h1
      have h1 := H.2 j (ready_mono hj hji)
      obtain ⟨hjun, oj, hoj, hall⟩ := mem_ready.1 hj
      have hnot : ∀ e ∈ oj.after, Region.binds md e = true → e.on ≠ i := fun e he hb heq => by
        have h1 := hall e he hb
        have h0 := (mem_ready.1 hr).1
        rw [heq] at h1
        rcases Nat.lt_or_ge i listed.size with h' | h'
        · simp [h'] at h0 h1; rw [h0] at h1; cases h1
        · simp [Array.getElem?_eq_none h'] at h1
      have h2 := wpOp_putIf hoj (hfree j oj hoj hji hjun hnot) (fun cs b => hsel i oi cs b hi) (fun cs b => hsel j oj cs b hoj) hQ hy h1
      have hfree' : ∀ k ok, ops[k]? = some ok → k ≠ i → (listed.setIfInBounds j true).getD k true = false →
          (∀ e ∈ ok.after, Region.binds md e = true → e.on ≠ i) → oi.apart ops ok = true := fun k ok hk hki hun hno => by
        refine hfree k ok hk hki ?_ hno
        by_cases hjk : j = k
        · subst hjk; exact hjun
        · rw [getD_set_ne true hjk] at hun; exact hun
      refine wpOp_mono (fun a' w' h3 => ⟨h3.2.1, ih (listed.setIfInBounds j true) a' w' (shut_set hsh hj) hfree' (ready_mono hr (Ne.symm hji)) h3.1 (h3.2.1 hjz) ?_⟩) h2
      rw [Array.setIfInBounds_comm _ _ hji]
      exact h3.2.2
theorem wpAnyZ_take {i : Nat} {oi : Oper} {v : Value} {fuel : Nat} {listed : Array Bool} {a : Act} {w : World} (hi : ops[i]? = some oi)
    (hs : Region.noSelect ops = true) (hf : Region.free md ops listed i = true) (hr : (Region.ready md ops listed).contains i = true) (hk : (!(i == z) && waitedZ md ops z && shutB md ops listed && (z + 1 == ops.size)) = true)
    (hQ : ∀ c a w, Q (.panic c) (a.put oi.dst v) w → Q (.panic c) a w) (hy : YieldsIf P ops S oi v a) (hS : S w)
    (h : wpAnyZ P md ops Q S z fuel (listed.setIfInBounds i true) (a.put oi.dst v) w) : wpAnyZ P md ops Q S z (fuel + 1) listed a w := by
  simp only [Bool.and_eq_true, Bool.not_eq_true', beq_eq_false_iff_ne, ne_eq, beq_iff_eq] at hk
  exact wpAnyZ_first hi hk.1.1.1 hk.1.1.2 hk.2 (Region.noSelect_spec hs) hQ fuel listed a w (shut_of hk.1.2) (Region.free_spec hi hf) (by simpa using hr) hy hS h
def AllReadyZ (P : Program) (md : Region.Mode) (ops : Array Oper) (Q : Exit → Act → World → Prop) (S : World → Prop) (z fuel : Nat) (listed : Array Bool) (a : Act) (w : World) (rs : List Nat) : Prop :=
  ∀ i ∈ rs, wpOp P ops Q i (fun a' w' => (i ≠ z → S w') ∧ wpAnyZ P md ops Q S z fuel (listed.setIfInBounds i true) a' w') a w
theorem AllReadyZ.nil {fuel : Nat} {listed : Array Bool} {a : Act} {w : World} : AllReadyZ P md ops Q S z fuel listed a w [] := fun _ h => by cases h
theorem AllReadyZ.cons {fuel : Nat} {listed : Array Bool} {a : Act} {w : World} {i : Nat} {o : Oper} {rs : List Nat} (ho : ops[i]? = some o)
    (h : ∀ K' : Act → World → Prop, Shut (∀ a w, S w → (S w → wpAnyZ P md ops Q S z fuel (listed.setIfInBounds i true) a w) → K' a w) → if Region.wanted o (yielded ops a.tmps) = true then Oper.wp P o a w K' Q else K' (a.put o.dst undef) w)
    (hs : AllReadyZ P md ops Q S z fuel listed a w rs) : AllReadyZ P md ops Q S z fuel listed a w (i :: rs) := fun j hj => by
  rcases List.mem_cons.1 hj with rfl | hj
  · exact wpOp_step ho (fun K' hK => h K' (fun a w hS hW => hK a w ⟨fun _ => hS, hW hS⟩))
  · exact hs j hj
theorem AllReadyZ.last {fuel : Nat} {listed : Array Bool} {a : Act} {w : World} {o : Oper} (ho : ops[z]? = some o)
    (h : ∀ K' : Act → World → Prop, Shut (∀ a w, wpAnyZ P md ops Q S z fuel (listed.setIfInBounds z true) a w → K' a w) → if Region.wanted o (yielded ops a.tmps) = true then Oper.wp P o a w K' Q else K' (a.put o.dst undef) w) : AllReadyZ P md ops Q S z fuel listed a w [z] := fun j hj => by
  rcases List.mem_cons.1 hj with rfl | hj
  · exact wpOp_step ho (fun K' hK => h K' (fun a w hW => hK a w ⟨fun e => absurd rfl e, hW⟩))
  · cases hj
theorem wpAnyZ_ready {rs : List Nat} {fuel : Nat} {listed : Array Bool} {a : Act} {w : World} (hr : Region.ready md ops listed = rs) (hne : rs ≠ [])
    (h : AllReadyZ P md ops Q S z fuel listed a w rs) : wpAnyZ P md ops Q S z (fuel + 1) listed a w :=
  ⟨fun h0 => absurd (hr ▸ h0) hne, hr ▸ h⟩
theorem wpAnyZ_done {listed : Array Bool} {a : Act} {w : World} (hr : Region.ready md ops listed = []) (h : Q .normal a w) : ∀ fuel, wpAnyZ P md ops Q S z fuel listed a w
  | 0 => ⟨hr, h⟩
  | _ + 1 => ⟨fun _ => h, fun i hi => by rw [hr] at hi; cases hi⟩
theorem wp_region_z {id : Nat} {a : Act} {w : World} (z n : Nat) (S : World → Prop) (hn : ops.size = n) (hm : P.follows .mixedOrders = true) (hS : S w.drew)
    (h : S w.drew → wpAnyZ P .any ops Q S z n (List.replicate n false).toArray a w.drew) : (Code.region id ops true).wp P Q a w := by
  subst hn
  exact wp_region_any hm (wpAny_of_z _ _ _ _ (by simpa using h hS))
end
section
variable {P : Program} {l : List Oper} {Q : Exit → Act → World → Prop} {md : Region.Mode} {S : World → Prop} {z : Nat}
theorem wpAnyZ_takeL {i : Nat} {oi : Oper} {v : Value} {fuel : Nat} {listed : List Bool} {a : Act} {w : World} (hi : l[i]? = some oi)
    (hk : (Region.noSelect l.toArray && Region.free md l.toArray listed.toArray i && (Region.ready md l.toArray listed.toArray).contains i && (!(i == z) && waitedZ md l.toArray z && shutB md l.toArray listed.toArray && (z + 1 == l.toArray.size))) = true)
    (hQ : ∀ c a w, Q (.panic c) (a.put oi.dst v) w → Q (.panic c) a w) (hy : YieldsIf P l.toArray S oi v a) (hS : S w)
    (h : wpAnyZ P md l.toArray Q S z fuel (listed.set i true).toArray (a.put oi.dst v) w) : wpAnyZ P md l.toArray Q S z (fuel + 1) listed.toArray a w := by
  rw [Bool.and_eq_true, Bool.and_eq_true, Bool.and_eq_true] at hk
  exact wpAnyZ_take (i := i) (by simpa using hi) hk.1.1.1 hk.1.1.2 hk.1.2 hk.2 hQ hy hS (by simpa using h)
theorem AllReadyZ.consL {fuel : Nat} {listed : List Bool} {a : Act} {w : World} {i : Nat} {o : Oper} {rs : List Nat} (ho : l[i]? = some o)
    (h : ∀ K' : Act → World → Prop, Shut (∀ a w, S w → (S w → wpAnyZ P md l.toArray Q S z fuel (listed.set i true).toArray a w) → K' a w) → if Region.wanted o (yielded l.toArray a.tmps) = true then Oper.wp P o a w K' Q else K' (a.put o.dst undef) w)
    (hs : AllReadyZ P md l.toArray Q S z fuel listed.toArray a w rs) : AllReadyZ P md l.toArray Q S z fuel listed.toArray a w (i :: rs) :=
  AllReadyZ.cons (by simpa using ho) (fun K' hK => h K' (fun a w hS hW => hK a w hS (fun hS => by simpa using hW hS))) hs
theorem AllReadyZ.lastL {fuel : Nat} {listed : List Bool} {a : Act} {w : World} {o : Oper} (ho : l[z]? = some o)
    (h : ∀ K' : Act → World → Prop, Shut (∀ a w, wpAnyZ P md l.toArray Q S z fuel (listed.set z true).toArray a w → K' a w) → if Region.wanted o (yielded l.toArray a.tmps) = true then Oper.wp P o a w K' Q else K' (a.put o.dst undef) w) : AllReadyZ P md l.toArray Q S z fuel listed.toArray a w [z] :=
  AllReadyZ.last (by simpa using ho) (fun K' hK => h K' (fun a w hW => hK a w (by simpa using hW)))
end
end Go.Proofs.YtlelckbeoclhbaaGreat

namespace Go.Proofs.YtlelckbeoclhbaaGreat
open Go.RowKit
theorem step_buildSlice {P : Program} {ops : Array Oper} {o : Oper} {a : Act} {w : World} {K : Act → World → Prop} {Q : Exit → Act → World → Prop} {E : Prop} (hg : o.guard = none) (t e : TypeId) (len : Nat) (parts : Array (Nat × Operand)) (ho : o.op = .buildSlice t len parts) (hu : P.underlying t = some (.slice e)) (cells : Array Value)
    (hf : P.builtSlice e len (parts.map fun (i, x) => (i, a.eval x)).toList = some cells) (hK : K (a.put o.dst (.slice (some ⟨w.heap.size, 0, none⟩) len len)) (w.alloc (.cells cells e))) :
    if Region.wanted o (yielded ops a.tmps) = true then Oper.wp P o a w K Q else E := by
  have hw : Region.wanted o (yielded ops a.tmps) = true := by simp [Region.wanted, hg]
  rw [if_pos hw]
  unfold Program.builtSlice at hf
  cases hie : P.info? e with
  | none => simp [hie] at hf
  | some ie =>
    simp only [hie] at hf
    cases hz : ie.zero with
    | none => simp [hz] at hf
    | some z =>
      simp only [hz] at hf
      by_cases hc : len * ie.size > 2 ^ 24 ∨ len * ie.size = 0
      · simp [hc] at hf
      · rw [if_neg hc] at hf
        exact wp_buildSlice t e len parts ho cells ie z hu hie hz (fun h' => hc (Or.inl h')) (fun h' => hc (Or.inr h')) hf hK
theorem book_set {w : World} {g t : Nat} {u0 u1 u2 u3 u4 u5 u6 u7 u8 u9 u10 u11 u12 : Value} (h : w.heap[g]? = some (.cells #[u0, u1, u2, u3, u4, u5, u6, u7, u8, u9, u10, u11, u12] t (0, 0))) (v0 v1 v2 v3 v4 v5 v6 v7 v8 v9 v10 v11 v12 : Value) :
    (((((((((((((w.setCell ⟨g, 0, none⟩ v0).setCell ⟨g, 1, none⟩ v1).setCell ⟨g, 2, none⟩ v2).setCell ⟨g, 3, none⟩ v3).setCell ⟨g, 4, none⟩ v4).setCell ⟨g, 5, none⟩ v5).setCell ⟨g, 6, none⟩ v6).setCell ⟨g, 7, none⟩ v7).setCell ⟨g, 8, none⟩ v8).setCell ⟨g, 9, none⟩ v9).setCell ⟨g, 10, none⟩ v10).setCell ⟨g, 11, none⟩ v11).setCell ⟨g, 12, none⟩ v12).heap[g]? = some (.cells #[v0, v1, v2, v3, v4, v5, v6, v7, v8, v9, v10, v11, v12] t (0, 0)) := by
  simpa using blk_set (blk_set (blk_set (blk_set (blk_set (blk_set (blk_set (blk_set (blk_set (blk_set (blk_set (blk_set (blk_set h 0 v0) 1 v1) 2 v2) 3 v3) 4 v4) 5 v5) 6 v6) 7 v7) 8 v8) 9 v9) 10 v10) 11 v11) 12 v12
theorem book_low {W w : World} {b : Nat} (h : Below W.heap.size W w) (hb : W.heap.size ≤ b) (v0 v1 v2 v3 v4 v5 v6 v7 v8 v9 v10 v11 v12 : Value) :
    Below W.heap.size W (((((((((((((w.setCell ⟨b, 0, none⟩ v0).setCell ⟨b, 1, none⟩ v1).setCell ⟨b, 2, none⟩ v2).setCell ⟨b, 3, none⟩ v3).setCell ⟨b, 4, none⟩ v4).setCell ⟨b, 5, none⟩ v5).setCell ⟨b, 6, none⟩ v6).setCell ⟨b, 7, none⟩ v7).setCell ⟨b, 8, none⟩ v8).setCell ⟨b, 9, none⟩ v9).setCell ⟨b, 10, none⟩ v10).setCell ⟨b, 11, none⟩ v11).setCell ⟨b, 12, none⟩ v12) := by
  exact (Below.setCell (p := ⟨b, 12, none⟩) (Below.setCell (p := ⟨b, 11, none⟩) (Below.setCell (p := ⟨b, 10, none⟩) (Below.setCell (p := ⟨b, 9, none⟩) (Below.setCell (p := ⟨b, 8, none⟩) (Below.setCell (p := ⟨b, 7, none⟩) (Below.setCell (p := ⟨b, 6, none⟩) (Below.setCell (p := ⟨b, 5, none⟩) (Below.setCell (p := ⟨b, 4, none⟩) (Below.setCell (p := ⟨b, 3, none⟩) (Below.setCell (p := ⟨b, 2, none⟩) (Below.setCell (p := ⟨b, 1, none⟩) (Below.setCell (p := ⟨b, 0, none⟩) h hb v0) hb v1) hb v2) hb v3) hb v4) hb v5) hb v6) hb v7) hb v8) hb v9) hb v10) hb v11) hb v12)
theorem book_keep (w : World) (b : Nat) (v0 v1 v2 v3 v4 v5 v6 v7 v8 v9 v10 v11 v12 : Value) :
    Kept w (((((((((((((w.setCell ⟨b, 0, none⟩ v0).setCell ⟨b, 1, none⟩ v1).setCell ⟨b, 2, none⟩ v2).setCell ⟨b, 3, none⟩ v3).setCell ⟨b, 4, none⟩ v4).setCell ⟨b, 5, none⟩ v5).setCell ⟨b, 6, none⟩ v6).setCell ⟨b, 7, none⟩ v7).setCell ⟨b, 8, none⟩ v8).setCell ⟨b, 9, none⟩ v9).setCell ⟨b, 10, none⟩ v10).setCell ⟨b, 11, none⟩ v11).setCell ⟨b, 12, none⟩ v12) (fun x => x = b) := by
  exact ((((((((((((((Kept.refl w (fun x => x = b)).set (a := ⟨b, 0, none⟩) rfl v0).set (a := ⟨b, 1, none⟩) rfl v1).set (a := ⟨b, 2, none⟩) rfl v2).set (a := ⟨b, 3, none⟩) rfl v3).set (a := ⟨b, 4, none⟩) rfl v4).set (a := ⟨b, 5, none⟩) rfl v5).set (a := ⟨b, 6, none⟩) rfl v6).set (a := ⟨b, 7, none⟩) rfl v7).set (a := ⟨b, 8, none⟩) rfl v8).set (a := ⟨b, 9, none⟩) rfl v9).set (a := ⟨b, 10, none⟩) rfl v10).set (a := ⟨b, 11, none⟩) rfl v11).set (a := ⟨b, 12, none⟩) rfl v12)
end Go.Proofs.YtlelckbeoclhbaaGreat
