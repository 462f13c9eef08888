/-
  OWN TEXT: SeenI, LawVw, PView (the last: FnExactViewOf holds, at every argument, with no condition).
-/
import Derived.Maps.OwnIn
import Derived.Deep.RegionHeld3
import Derived.Test.YtlelckbeoclhbaaGreatB42
import Derived.Test.YtlelckbeoclhbaaGreatB41
import Derived.Test.YtlelckbeoclhbaaGreatB28
import Derived.Test.YtlelckbeoclhbaaGreatB31
import Derived.Test.YtlelckbeoclhbaaGreatB33
import Derived.Test.YtlelckbeoclhbaaGreatB36
import Derived.Test.YtlelckbeoclhbaaGreatB40
set_option maxHeartbeats 12800000
set_option maxRecDepth 100000
namespace Go.Proofs.YtlelckbeoclhbaaGreat
open Go.RowKit Go.Shelf Classical
theorem Tryz.infoSIi : (Tryz.prog.info? 31).map (fun i => (i.zero, i.size, i.bytes)) = some (some (.slice none 0 0), 1, 24) := by kernel_rfl
theorem Tryz.infoSRi : (Tryz.prog.info? 55).map (fun i => (i.zero, i.size, i.bytes)) = some (some (.slice none 0 0), 1, 24) := by kernel_rfl
theorem FitS.below {x : Off} {k s0 : Nat} {v : SightV} {W W' : World} (h : FitS x k v s0 W) (hb : Below W.heap.size W W') : FitS x k v s0 W' := ⟨h.lt, own_below hb h.row, own_below hb h.lan, own_below hb h.ber, h.far, h.peo⟩
theorem row_carry {u y : World} {lim e sz n s0 e' sz' n' b : Nat} {v v' : Value} {xs xs' : List Value} {cs : Array Value} (ho : u.ownsRow lim e sz v n xs) (hg : u.grownBy y v.ownBlock) (hx : u.ownsRow s0 e' sz' v' n' xs') (hne : e ≠ e') (hb : y.heap[b]? = some (.cells cs 33 (0, 0))) (h2 : e' ≠ 33) (i : Nat) (z : Value) : (y.setCell ⟨b, i, none⟩ z).ownsRow s0 e' sz' v' n' xs' := by
  have h3 : y.ownsRow s0 e' sz' v' n' xs' := (kept_row hg).own hx (fun g q1 q2 => own_apart ho hx hne g q2 q1)
  have hk : Kept y (y.setCell ⟨b, i, none⟩ z) (fun g => g = b) := (Kept.refl y (fun g => g = b)).set (a := ⟨b, i, none⟩) rfl _
  exact hk.own h3 (fun g q1 q2 => own_notE h3 hb h2 g q1 q2)
def AxW (W0 : World) (base ob : Nat) (oc : Array Value) (x : Off) (vb : Value) (E : Nat → Value) (pre : List SightV) (v : SightV) (sb : Nat) (W : World) : Prop :=
  SeeI2 W0 base ob oc x vb E pre v W ∧ W.heap[sb]? = some (.cells #[v.1, v.2.1, v.2.2.1, .int .i64 v.2.2.2] 78 (0, 0)) ∧ W0.heap.size < sb
def AxA (W0 : World) (base ob : Nat) (oc : Array Value) (x : Off) (vb : Value) (E : Nat → Value) (pre : List SightV) (v : SightV) (a : Act) (W : World) : Prop :=
  ∃ (sb : Nat) (y0 y1 y2 y3 y6 y7 y8 y9 y10 y11 y12 y13 y14 y15 y16 y17 y18 y19 y20 y21 y22 y23 y24 y25 y26 y27 y28 y29 y30 y31 y32 y33 y34 y35 y36 y37 y38 y39 y40 y41 y42 y43 y44 y45 : Value), a = ⟨#[y0, y1, y2, y3, .pointer (some ⟨W0.heap.size, 0, none⟩), .pointer (some ⟨sb, 0, none⟩), y6, y7, y8, y9, y10, y11, y12, y13, y14, y15, y16, y17, y18, y19, y20, y21, y22, y23, y24, y25, y26, y27, y28, y29, y30, y31, y32, y33, y34, y35, y36, y37, y38, y39, y40, y41, y42, y43, y44, y45], []⟩ ∧ AxW W0 base ob oc x vb E pre v sb W
theorem FitS.own {x : Off} {k s0 : Nat} {v : SightV} {W W' : World} {row : Option Nat} (h : FitS x k v s0 W) (hg : W.grownBy W' row) (hr : ∀ r, row = some r → ∃ o : Obj, W.heap[r]? = some o ∧ o.isCells = false) : FitS x k v s0 W' := by
  have hk := kept_row hg
  have far : ∀ {be e sz n : Nat} {v : Value} {xs : List Value}, W.ownsRow be e sz v n xs → ∀ b, v.ownBlock = some b → ¬ row = some b := fun ho b q1 q2 => by
    obtain ⟨o, h1, h2⟩ := hr b q2
    rw [own_cellsB ho q1 h1] at h2; cases h2
  exact ⟨h.lt, hk.own h.row (far h.row), hk.own h.lan (far h.lan), hk.own h.ber (far h.ber), h.far, h.peo⟩
theorem AxA.ownFrom {W0 : World} {base ob : Nat} {oc : Array Value} {x : Off} {vb : Value} {E : Nat → Value} {B : Nat} (hB : W0.heap.size ≤ B) (v : SightV) (a : Act) : OwnFrom B (fun pre W => AxA W0 base ob oc x vb E pre v a W) := by
  rintro xs A C row ⟨sb, y0, y1, y2, y3, y6, y7, y8, y9, y10, y11, y12, y13, y14, y15, y16, y17, y18, y19, y20, y21, y22, y23, y24, y25, y26, y27, y28, y29, y30, y31, y32, y33, y34, y35, y36, y37, y38, y39, y40, y41, y42, y43, y44, y45, ea, ⟨ar, al, aq, ap, cr, cl, cq, cp, R, L, Q, s0, h, hf, r1, r2, r3, r4, r5⟩, h1, h2⟩ hg hr
  refine ⟨sb, y0, y1, y2, y3, y6, y7, y8, y9, y10, y11, y12, y13, y14, y15, y16, y17, y18, y19, y20, y21, y22, y23, y24, y25, y26, y27, y28, y29, y30, y31, y32, y33, y34, y35, y36, y37, y38, y39, y40, y41, y42, y43, y44, y45, ea, ⟨ar, al, aq, ap, cr, cl, cq, cp, R, L, Q, s0, h.own hg (fun r e => ⟨Nat.le_trans hB (hr r e).1, (hr r e).2⟩), hf.own hg (fun r e => (hr r e).2), r1, r2, r3, r4, r5⟩, (kept_row hg).blk h1 (fun e => ?_), h2⟩
  obtain ⟨_, o, q1, q2⟩ := hr _ e
  rw [h1] at q1; cases q1; cases q2
attribute [local go_sem] Oper.semAt_some
theorem implView_raw (x : Off) (asa ald abk : Option Addr) (csa cld cbk : Nat) (w : World) (hs : Off.Short x 1048576) (hsa : SailsAt w asa x.san x.sa) (hld : LoadsAt w ald x.ldn x.ld) (hbk : BooksAt w abk x.bkn x.bk) (hcb : x.bkn ≤ cbk) :
    Calls Tryz.prog 7 #[.agg #[.slice asa x.san csa, .slice ald x.ldn cld, .slice abk x.bkn cbk]] w fun e w' => (∃ vb vr vl vq vp E R L Q base lim, w.heap.size ≤ base ∧ e = .returned (.tuple #[.agg #[vb, vr, vl, vq, vp], .bool (decide (OffOk x))]) ∧ OwnView w' base lim (viewA x) vb vr vl vq vp E R L Q) ∧ Below w.heap.size w w' := by
  obtain ⟨i0, ii, iz0, iz1, iz2⟩ := info_parts Tryz.infoSIi
  obtain ⟨r0, ri, rz0, rz1, rz2⟩ := info_parts Tryz.infoSRi
  obtain ⟨p0, pi, pz0, pz1, pz2⟩ := info_parts Tryz.infoInt
  have HSH : Hid (Off.Short x 1048576) := hs
  have HSA : Hid (SailsAt w asa x.san x.sa) := hsa
  have HLD : Hid (LoadsAt w ald x.ldn x.ld) := hld
  have HBK : Hid (BooksAt w abk x.bkn x.bk) := hbk
  have hb0 : Below w.heap.size w ((w.alloc (.cells #[.slice asa x.san csa, .slice ald x.ldn cld, .slice abk x.bkn cbk] 39)).alloc (.cells #[.slice none 0 0, .slice none 0 0, .slice none 0 0, .slice none 0 0, .slice none 0 0] 33)) := push (push (Below.refl _ _) _) _
  have bO : ((w.alloc (.cells #[.slice asa x.san csa, .slice ald x.ldn cld, .slice abk x.bkn cbk] 39)).alloc (.cells #[.slice none 0 0, .slice none 0 0, .slice none 0 0, .slice none 0 0, .slice none 0 0] 33)).heap[w.heap.size]? = some (.cells #[.slice asa x.san csa, .slice ald x.ldn cld, .slice abk x.bkn cbk] 39 (0, 0)) := blk_alloc (heap_alloc_new w _) _
  have bR : ((w.alloc (.cells #[.slice asa x.san csa, .slice ald x.ldn cld, .slice abk x.bkn cbk] 39)).alloc (.cells #[.slice none 0 0, .slice none 0 0, .slice none 0 0, .slice none 0 0, .slice none 0 0] 33)).heap[w.heap.size + 1]? = some (.cells #[.slice none 0 0, .slice none 0 0, .slice none 0 0, .slice none 0 0, .slice none 0 0] 33 (0, 0)) := by
    have h := heap_alloc_new (w.alloc (.cells #[.slice asa x.san csa, .slice ald x.ldn cld, .slice abk x.bkn cbk] 39)) (.cells #[.slice none 0 0, .slice none 0 0, .slice none 0 0, .slice none 0 0, .slice none 0 0] 33)
    rw [show (w.alloc (.cells #[.slice asa x.san csa, .slice ald x.ldn cld, .slice abk x.bkn cbk] 39)).heap.size = w.heap.size + 1 by simp] at h
    exact h
  clear hs hsa hld hbk
  refine (callsIn_wide (n := 9)).1 ?_
  refine callsIn_of_wp_marks Tryz.func7 rfl trivial ?_ rfl
  simp only [Tryz.ntmps7, List.size_toArray, List.length_cons, List.length_nil, Nat.reduceAdd, Nat.reduceSub, Array.replicate_succ, Array.replicate_zero, List.push_toArray, List.append_toArray, List.nil_append, List.cons_append]
  refine wpIn_wide.2 ?_
  go_upto_region 1 with fail
  generalize (w.alloc (.cells #[.slice asa x.san csa, .slice ald x.ldn cld, .slice abk x.bkn cbk] 39)).alloc (.cells #[.slice none 0 0, .slice none 0 0, .slice none 0 0, .slice none 0 0, .slice none 0 0] 33) = U0 at hb0 bO bR ⊢
  have o0 := blk_cell bO 0 _ rfl
  have o1 := blk_cell bO 1 _ rfl
  have o2 := blk_cell bO 2 _ rfl
  go_wp2_with fail
  refine (implOff_raw x asa ald abk csa cld cbk U0 HSH.out (HSA.out.below hb0) (HLD.out.below hb0) (HBK.out.below hb0) hcb).mono ?_
  rintro e U1 ⟨hok, hb1⟩
  replace bO := blk_below bO hb1
  replace bR := blk_below bR hb1
  have hbw1 := after hb0 hb1
  clear o0 o1 o2 hb1
  have hRb0 : w.heap.size + 1 < U1.heap.size := blk_lt bR
  obtain rfl := says_decide hok
  clear hok
  by_cases hof : OffOk x
  case neg =>
    have HV : Hid (viewA x = noView) := viewA_no hof
    have ed : decide (OffOk x) = false := decide_eq_false hof
    rw [ed]
    have z0 := blk_cell bR 0 _ rfl
    have z1 := blk_cell bR 1 _ rfl
    have z2 := blk_cell bR 2 _ rfl
    have z3 := blk_cell bR 3 _ rfl
    have z4 := blk_cell bR 4 _ rfl
    have f0 := blk_free bR 0
    have f1 := blk_free bR 1
    have f2 := blk_free bR 2
    have f3 := blk_free bR 3
    have f4 := blk_free bR 4
    have rF := blk_set (blk_set (blk_set (blk_set (blk_set bR 0 (.slice none 0 0)) 1 (.slice none 0 0)) 2 (.slice none 0 0)) 3 (.slice none 0 0)) 4 (.slice none 0 0)
    have hbF : Below w.heap.size w (((((U1.setCell ⟨w.heap.size + 1, 0, none⟩ (.slice none 0 0)).setCell ⟨w.heap.size + 1, 1, none⟩ (.slice none 0 0)).setCell ⟨w.heap.size + 1, 2, none⟩ (.slice none 0 0)).setCell ⟨w.heap.size + 1, 3, none⟩ (.slice none 0 0)).setCell ⟨w.heap.size + 1, 4, none⟩ (.slice none 0 0)) := setV (setV (setV (setV (setV hbw1 (by omega) _) (by omega) _) (by omega) _) (by omega) _) (by omega) _
    go_wp2
    generalize ((((U1.setCell ⟨w.heap.size + 1, 0, none⟩ (.slice none 0 0)).setCell ⟨w.heap.size + 1, 1, none⟩ (.slice none 0 0)).setCell ⟨w.heap.size + 1, 2, none⟩ (.slice none 0 0)).setCell ⟨w.heap.size + 1, 3, none⟩ (.slice none 0 0)).setCell ⟨w.heap.size + 1, 4, none⟩ (.slice none 0 0) = UF at rF hbF ⊢
    clear z0 z1 z2 z3 z4 f0 f1 f2 f3 f4
    have z0 := blk_cell rF 0 _ rfl
    have z1 := blk_cell rF 1 _ rfl
    have z2 := blk_cell rF 2 _ rfl
    have z3 := blk_cell rF 3 _ rfl
    have z4 := blk_cell rF 4 _ rfl
    refine ⟨.tuple #[.agg #[.slice none 0 0, .slice none 0 0, .slice none 0 0, .slice none 0 0, .slice none 0 0], .bool false], by simp [results, Tryz.results7, go_sem, z0, z1, z2, z3, z4], ?_, hbF⟩
    rw [HV.out, ed]
    exact ⟨_, _, _, _, _, (fun _ => .slice none 0 0), (fun _ => .slice none 0 0), (fun _ => .slice none 0 0), (fun _ => .slice none 0 0), w.heap.size, w.heap.size, Nat.le_refl _, rfl, OwnBks.nil _ _ _ _, (by rintro b (q | ⟨i, hi, q⟩); (simp [Value.ownBlock] at q); exact absurd hi (Nat.not_lt_zero _)), OwnSS.nil _ _ _ _ _ _ _ _, OwnSS.nil _ _ _ _ _ _ _ _, OwnSS.nil _ _ _ _ _ _ _ _, ⟨rfl, .inl ⟨rfl, rfl⟩⟩, fun i j hi => absurd hi (Nat.not_lt_zero _), fun i hi => absurd hi (Nat.not_lt_zero _), fun i hi => absurd hi (Nat.not_lt_zero _), (fun b q => by simp [Value.ownBlock] at q), Nat.le_refl _⟩
  case pos =>
  have HOK : Hid (OffOk x) := hof
  have ed : decide (OffOk x) = true := decide_eq_true hof
  have hbn : x.bkn ≤ 30 := hof.2.2.1
  have hsn : x.san ≤ 6 := hof.1.1
  rw [ed]
  clear hof
  have HLG : Hid (∀ i, i < x.bkn → 0 < (x.bk i).lgn ∧ (x.bk i).lgn ≤ 1048576) := fun i hi => ⟨(by have := HOK.out.2.2.2.2.1 i hi; have h4 := this.2.2.2.1.1; unfold In at h4; omega), (HSH.out.2.2.2 i hi).2⟩
  have o2 := blk_cell bO 2 _ rfl
  go_wp2_with fail
  refine (copyBooks_any abk x.bkn cbk x.bk U1 (by omega) HLG.out (HBK.out.below hbw1)).mono ?_
  rintro e W0 ⟨⟨gb, E, rfl, hE⟩, hb2⟩
  replace bO := blk_below bO hb2
  replace bR := blk_below bR hb2
  have hbw2 := after hbw1 hb2
  have hle1 : U1.heap.size ≤ W0.heap.size := hb2.size
  have HE : Hid (OwnBks W0 U1.heap.size (.slice (some ⟨gb, 0, none⟩) x.bkn x.bkn) x.bkn x.bk E) := hE
  clear o2 hE hb2
  dsimp only
  have VB := heap_alloc_new W0 (.cells #[.slice (some ⟨gb, 0, none⟩) x.bkn x.bkn, .slice none 0 0, .slice none 0 0, .slice none 0 0, .slice none 0 0] 33)
  have hVb : Below W0.heap.size W0 (W0.alloc (.cells #[.slice (some ⟨gb, 0, none⟩) x.bkn x.bkn, .slice none 0 0, .slice none 0 0, .slice none 0 0, .slice none 0 0] 33)) := push (Below.refl _ _) _
  go_upto_region 4 with fail
  generalize hY0 : W0.alloc (.cells #[.slice (some ⟨gb, 0, none⟩) x.bkn x.bkn, .slice none 0 0, .slice none 0 0, .slice none 0 0, .slice none 0 0] 33) = Y0 at VB hVb ⊢
  have hsY : Y0.heap.size = W0.heap.size + 1 := by rw [← hY0]; simp
  clear hY0
  have bO4 := blk_below bO hVb
  have o0 := blk_cell bO4 0 _ rfl
  have o1 := blk_cell bO4 1 _ rfl
  have o2 := blk_cell bO4 2 _ rfl
  have bOb := heap_alloc_new Y0 (.cells #[.slice asa x.san csa, .slice ald x.ldn cld, .slice abk x.bkn cbk] 39)
  rw [hsY] at bOb
  have VB5 := blk_alloc VB (.cells #[.slice asa x.san csa, .slice ald x.ldn cld, .slice abk x.bkn cbk] 39)
  have hV5 : Below W0.heap.size W0 (Y0.alloc (.cells #[.slice asa x.san csa, .slice ald x.ldn cld, .slice abk x.bkn cbk] 39)) := push hVb _
  go_wp2
  generalize hYR : Y0.alloc (.cells #[.slice asa x.san csa, .slice ald x.ldn cld, .slice abk x.bkn cbk] 39) = YR at bOb VB5 hV5 ⊢
  have hsR : YR.heap.size = W0.heap.size + 1 + 1 := by rw [← hYR]; simp [hsY]
  clear hYR o0 o1 o2 bO4 VB hVb hsY
  have hbw5 := after hbw2 hV5
  have HT0 : Hid (VTo YR U1.heap.size W0.heap.size (viewW x) 0 0 0 0 (.slice (some ⟨gb, 0, none⟩) x.bkn x.bkn) (.slice none 0 0) (.slice none 0 0) (.slice none 0 0) (.slice none 0 0) E (fun _ => .slice none 0 0) (fun _ => .slice none 0 0) (fun _ => .slice none 0 0)) :=
    ⟨HE.out.below hV5, (by rintro b (q | ⟨i, hi, q⟩); exact (HE.out.row.lt b q).2; exact ((HE.out.legs i hi).lt b q).2), OwnSS.nil _ _ _ _ _ _ _ _, OwnSS.nil _ _ _ _ _ _ _ _, OwnSS.nil _ _ _ _ _ _ _ _, ⟨rfl, .inl ⟨rfl, rfl⟩⟩, fun i j hi => absurd hi (Nat.not_lt_zero _), fun i hi => absurd hi (Nat.not_lt_zero _), fun i hi => absurd hi (Nat.not_lt_zero _), fun b q => by simp [Value.ownBlock] at q, hle1⟩
  have hns : w.heap.size ≤ W0.heap.size := hbw2.size
  refine (wpIn_wide (n := 9)).1 ?_
  refine range_fit (F := Fence.wide) rfl (by omega) (gf := 67) (lb := #[.pointer (some ⟨W0.heap.size + 1, 0, none⟩)]) (by rfl) trivial (enters_of Tryz.func67 (by kernel_rfl) rfl)
    (sights_fit 8 x asa ald abk csa cld cbk (W0.heap.size + 1) w YR HOK.out HSH.out HSA.out HLD.out HBK.out hbw5 bOb) (fun h k => ⟨h.1.trans k.1, k.2.trans h.2⟩) (fun W l o o' hl h1 h2 h3 => ⟨?kb, World.putObj_heap_other (by omega)⟩) (Below.refl _ _) (fun _ => rfl)
    (SeeI W0 U1.heap.size (W0.heap.size + 1) #[.slice asa x.san csa, .slice ald x.ldn cld, .slice abk x.bkn cbk] x (.slice (some ⟨gb, 0, none⟩) x.bkn x.bkn) E) (SeeI2 W0 U1.heap.size (W0.heap.size + 1) #[.slice asa x.san csa, .slice ald x.ldn cld, .slice abk x.bkn cbk] x (.slice (some ⟨gb, 0, none⟩) x.bkn x.bkn) E) (AxA W0 U1.heap.size (W0.heap.size + 1) #[.slice asa x.san csa, .slice ald x.ldn cld, .slice abk x.bkn cbk] x (.slice (some ⟨gb, 0, none⟩) x.bkn x.bkn) E)
    (SeeI.ownFrom (by omega)) (fun v a => AxA.ownFrom (by omega) v a) ⟨none, none, none, none, 0, 0, 0, 0, _, _, _, HT0.out, VB5, bOb, hV5⟩ (fun pre v A C h hb _ hf => h.fit hb hf) ?assign ?body ?done
  case kb => exact belowK_b (by omega) W l o o' hl h1 h2 h3
  case assign =>
    rintro l pre ⟨rv, lv, qv, p⟩ W K ⟨ar, al, aq, ap, cr, cl, cq, cp, R, L, Q, s0, h, hf, q1, q2, q3, q4, q5⟩ hK
    have g1 : W.ownsRow s0 116 5 rv ((viewW x).rn pre.length) (rowList ((viewW x).rf pre.length) ((viewW x).rn pre.length)) := hf.row
    have g2 : W.ownsRow s0 3 1 lv ((viewW x).ln pre.length) (intList ((viewW x).lf pre.length) ((viewW x).ln pre.length)) := hf.lan
    have g3 : W.ownsRow s0 3 1 qv ((viewW x).qn pre.length) (intList ((viewW x).qf pre.length) ((viewW x).qn pre.length)) := hf.ber
    obtain ⟨n1, hn1⟩ : ∃ n, n = (viewW x).rn pre.length := ⟨_, rfl⟩
    obtain ⟨n2, hn2⟩ : ∃ n, n = (viewW x).ln pre.length := ⟨_, rfl⟩
    obtain ⟨n3, hn3⟩ : ∃ n, n = (viewW x).qn pre.length := ⟨_, rfl⟩
    rw [← hn1] at g1
    rw [← hn2] at g2
    rw [← hn3] at g3
    obtain ⟨e1, f1, rfl, _⟩ := own_form g1
    obtain ⟨e2, f2, rfl, _⟩ := own_form g2
    obtain ⟨e3, f3, rfl, _⟩ := own_form g3
    have HF : Hid (FitS x pre.length (.slice e1 n1 f1, .slice e2 n2 f2, .slice e3 n3 f3, p) s0 W) := hf
    have HH : Hid (SeeW W0 U1.heap.size (W0.heap.size + 1) #[.slice asa x.san csa, .slice ald x.ldn cld, .slice abk x.bkn cbk] x (.slice (some ⟨gb, 0, none⟩) x.bkn x.bkn) E pre.length ar al aq ap cr cl cq cp R L Q W) := h
    have HQ : Hid (W0.heap.size ≤ s0 ∧ (∀ i, i < pre.length → ∀ b, (R i).ownBlock = some b → b < s0) ∧ (∀ i, i < pre.length → ∀ b, (L i).ownBlock = some b → b < s0) ∧ (∀ i, i < pre.length → ∀ b, (Q i).ownBlock = some b → b < s0) ∧ ∀ b, (Value.slice ap pre.length cp).ownBlock = some b → b < s0) := ⟨q1, q2, q3, q4, q5⟩
    have HK : Hid (∀ a' W', AxA W0 U1.heap.size (W0.heap.size + 1) #[.slice asa x.san csa, .slice ald x.ldn cld, .slice abk x.bkn cbk] x (.slice (some ⟨gb, 0, none⟩) x.bkn x.bkn) E pre (.slice e1 n1 f1, .slice e2 n2 f2, .slice e3 n3 f3, p) a' W' → KeepsOthers W W' → KpS w.heap.size (W0.heap.size + 1) W W' → K a' W') := hK
    clear hf h q1 q2 q3 q4 q5 g1 g2 g3 hn1 hn2 hn3 hK HT0 VB5 bOb hV5
    simp only [encS, List.zip_toArray, List.zip_cons_cons, List.zip_nil_right, List.foldl_toArray, List.foldl_cons, List.foldl_nil, List.setIfInBounds_toArray, List.set_cons_zero, List.set_cons_succ]
    gi_wp2
    have hal : Below W.heap.size W (W.alloc (.cells #[.slice e1 n1 f1, .slice e2 n2 f2, .slice e3 n3 f3, .int .i64 p] 78)) := push (Below.refl _ _) _
    have hwl := blk_lt HH.out.box
    exact HK.out _ _ ⟨W.heap.size, _, _, _, _, _, _, _, _, _, _, _, _, _, _, _, _, _, _, _, _, _, _, _, _, _, _, _, _, _, _, _, _, _, _, _, _, _, _, _, _, _, _, _, _, rfl, ⟨ar, al, aq, ap, cr, cl, cq, cp, R, L, Q, s0, HH.out.below hal, HF.out.below hal, HQ.out⟩, heap_alloc_new W _, hwl⟩ (KeepsOthers.alloc _ _) ⟨(Below.refl _ _).alloc (by omega) _, hal.block _ (blk_lt HH.out.obx)⟩
  case body =>
    rintro l pre ⟨rv, lv, qv, p⟩ a' W ⟨sb, y0, y1, y2, y3, y6, y7, y8, y9, y10, y11, y12, y13, y14, y15, y16, y17, y18, y19, y20, y21, y22, y23, y24, y25, y26, y27, y28, y29, y30, y31, y32, y33, y34, y35, y36, y37, y38, y39, y40, y41, y42, y43, y44, y45, rfl, ⟨ar, al, aq, ap, cr, cl, cq, cp, R, L, Q, s0, h, hf, q1, q2, q3, q4, q5⟩, hsb, hlt⟩
    obtain ⟨k, hk⟩ : ∃ k, k = pre.length := ⟨_, rfl⟩
    have hlen : (pre ++ [(rv, lv, qv, p)]).length = k + 1 := by rw [List.length_append, hk]; rfl
    rw [← hk] at h hf q2 q3 q4 q5
    have hks : k < x.san := hf.lt
    have g1 : W.ownsRow s0 116 5 rv ((viewW x).rn k) (rowList ((viewW x).rf k) ((viewW x).rn k)) := hf.row
    obtain ⟨n1, hn1⟩ : ∃ n, n = (viewW x).rn k := ⟨_, rfl⟩
    rw [← hn1] at g1
    obtain ⟨e1, f1, rfl, _⟩ := own_form g1
    have HN1 : Hid (n1 = (viewW x).rn k) := hn1
    have HG1 : Hid (W.ownsRow s0 116 5 (.slice e1 n1 f1) n1 (rowList ((viewW x).rf k) n1)) := g1
    have g2 : W.ownsRow s0 3 1 lv ((viewW x).ln k) (intList ((viewW x).lf k) ((viewW x).ln k)) := hf.lan
    obtain ⟨n2, hn2⟩ : ∃ n, n = (viewW x).ln k := ⟨_, rfl⟩
    rw [← hn2] at g2
    obtain ⟨e2, f2, rfl, _⟩ := own_form g2
    have HN2 : Hid (n2 = (viewW x).ln k) := hn2
    have HG2 : Hid (W.ownsRow s0 3 1 (.slice e2 n2 f2) n2 (intList ((viewW x).lf k) n2)) := g2
    have g3 : W.ownsRow s0 3 1 qv ((viewW x).qn k) (intList ((viewW x).qf k) ((viewW x).qn k)) := hf.ber
    obtain ⟨n3, hn3⟩ : ∃ n, n = (viewW x).qn k := ⟨_, rfl⟩
    rw [← hn3] at g3
    obtain ⟨e3, f3, rfl, _⟩ := own_form g3
    have HN3 : Hid (n3 = (viewW x).qn k) := hn3
    have HG3 : Hid (W.ownsRow s0 3 1 (.slice e3 n3 f3) n3 (intList ((viewW x).qf k) n3)) := g3
    have HFA : Hid (∀ b, (Value.slice e2 n2 f2).ownBlock = some b → (Value.slice e3 n3 f3).ownBlock ≠ some b) := hf.far
    have HPF : Hid (p = (viewW x).pf k) := hf.peo
    have HQQ : Hid (W0.heap.size ≤ s0 ∧ (∀ i, i < k → ∀ b, (R i).ownBlock = some b → b < s0) ∧ (∀ i, i < k → ∀ b, (L i).ownBlock = some b → b < s0) ∧ (∀ i, i < k → ∀ b, (Q i).ownBlock = some b → b < s0) ∧ ∀ b, (Value.slice ap k cp).ownBlock = some b → b < s0) := ⟨q1, q2, q3, q4, q5⟩
    have HS0 : Hid (RVt W W0 W w.heap.size U1.heap.size (W0.heap.size + 1) #[.slice asa x.san csa, .slice ald x.ldn cld, .slice abk x.bkn cbk] (viewW x) k k k k sb #[.slice e1 n1 f1, .slice e2 n2 f2, .slice e3 n3 f3, .int .i64 p] (.slice (some ⟨gb, 0, none⟩) x.bkn x.bkn) (.slice ar k cr) (.slice al k cl) (.slice aq k cq) (.slice ap k cp) (.slice ar k cr) (.slice al k cl) (.slice aq k cq) (.slice ap k cp) E R L Q) := ⟨⟨h.vt, h.box, hsb, h.bel, hlt⟩, h.obx, KeepsOthers.refl _, Below.refl _ _, hns, by omega⟩
    have HLE : Hid ((pre ++ [((.slice e1 n1 f1, .slice e2 n2 f2, .slice e3 n3 f3, p) : SightV)]).length = k + 1) := hlen
    clear hf h q1 q2 q3 q4 q5 g1 g2 g3 hn1 hn2 hn3 hlen HT0 VB5 bOb hV5 hsb hk
    have b0v := blk_cell HS0.out.sv.box 1 _ rfl
    have b0s := blk_cell HS0.out.sv.sbx 0 _ rfl
    have HD0 : Hid (RVt W W0 (W.alloc (.cells #[.slice e1 n1 f1] 55)) w.heap.size U1.heap.size (W0.heap.size + 1) #[.slice asa x.san csa, .slice ald x.ldn cld, .slice abk x.bkn cbk] (viewW x) k k k k sb #[.slice e1 n1 f1, .slice e2 n2 f2, .slice e3 n3 f3, .int .i64 p] (.slice (some ⟨gb, 0, none⟩) x.bkn x.bkn) (.slice ar k cr) (.slice al k cl) (.slice aq k cq) (.slice ap k cp) (.slice ar k cr) (.slice al k cl) (.slice aq k cq) (.slice ap k cp) E R L Q) := HS0.out.alloc _
    have HW0 : Hid (∀ i q, [(.slice e1 n1 f1 : Value)][i]? = some q → (W.alloc (.cells #[.slice e1 n1 f1] 55)).cell? ((⟨W.heap.size, 0, none⟩ : Addr).add i) = some q) := World.news_of_block (cs := #[.slice e1 n1 f1]) (t := 55) (fr := (0, 0)) (heap_alloc_new W _)
    have hl0 : W0.heap.size ≤ (W.alloc (.cells #[.slice e1 n1 f1] 55)).heap.size := Nat.le_of_lt (blk_lt HD0.out.sv.box)
    have HX10 : Hid ((W.alloc (.cells #[.slice e1 n1 f1] 55)).ownsRow s0 116 5 (.slice e1 n1 f1) n1 (rowList ((viewW x).rf k) n1)) := own_below (push (Below.refl _ _) _) HG1.out
    have HX20 : Hid ((W.alloc (.cells #[.slice e1 n1 f1] 55)).ownsRow s0 3 1 (.slice e2 n2 f2) n2 (intList ((viewW x).lf k) n2)) := own_below (push (Below.refl _ _) _) HG2.out
    have HX30 : Hid ((W.alloc (.cells #[.slice e1 n1 f1] 55)).ownsRow s0 3 1 (.slice e3 n3 f3) n3 (intList ((viewW x).qf k) n3)) := own_below (push (Below.refl _ _) _) HG3.out
    gi_wp2_with (gi_at_builtin; refine Hid.out ?_)
    unfold Hid
    refine wpListIn_append_own_at _ (by rfl) (.tmp 18) (.tmp 21) 29 (by rfl) W0.heap.size 55 r0 (.slice none 0 0) 1 24 Tryz.underlying29 ri rz0 rz1 rz2 rfl (by decide) (.slice ar k cr) k ((List.range k).map R) (by rfl) HD0.out.sv.vt.rows.row ⟨W.heap.size, 0, none⟩ 1 1 [.slice e1 n1 f1] (by rfl) (by rfl) HW0.out (by intro q hq; simp at hq; rw [hq]; rfl) (by unfold maxLen; omega) (by omega) hl0 ?_
    intro v0 z0 hoA hgA hnA hatA
    obtain ⟨gr, cr2, rfl⟩ := ownsRow_succ hoA
    clear hnA
    obtain ⟨⟨w1, w2, w3⟩, w4, w5, w6⟩ := HD0.out.grow HD0.out.sv.vt.rows.row hgA (by decide) (by decide) (by decide)
    have HZ0 : Hid (RVt W W0 z0 w.heap.size U1.heap.size (W0.heap.size + 1) #[.slice asa x.san csa, .slice ald x.ldn cld, .slice abk x.bkn cbk] (viewW x) (k + 1) k k k sb #[.slice e1 n1 f1, .slice e2 n2 f2, .slice e3 n3 f3, .int .i64 p] (.slice (some ⟨gb, 0, none⟩) x.bkn x.bkn) (.slice (some ⟨gr, 0, none⟩) (k + 1) cr2) (.slice al k cl) (.slice aq k cq) (.slice ap k cp) (.slice ar k cr) (.slice al k cl) (.slice aq k cq) (.slice ap k cp) E (atV R k (.slice e1 n1 f1)) L Q) := ⟨⟨HD0.out.sv.vt.row (by have g := own_base HX10.out HQQ.out.1; rw [HN1.out] at g ⊢; exact g) (fun i hi b q1 q2 => by have h5 := HQQ.out.2.1 i hi b q1; have h6 := (World.ownsRow.lt HX10.out b q2).1; omega) hgA hoA, w1, w2, w3, HD0.out.sv.lt⟩, w4, w5, w6, HD0.out.le, HD0.out.ne⟩
    have zc0 := blk_cell HZ0.out.sv.box 1 _ rfl
    have zf0 := blk_free HZ0.out.sv.box 1
    have hs0 := HZ0.out.sto 1 (.slice (some ⟨gr, 0, none⟩) (k + 1) cr2)
    have HS1 : Hid (RVt W W0 (z0.setCell ⟨W0.heap.size, 1, none⟩ (.slice (some ⟨gr, 0, none⟩) (k + 1) cr2)) w.heap.size U1.heap.size (W0.heap.size + 1) #[.slice asa x.san csa, .slice ald x.ldn cld, .slice abk x.bkn cbk] (viewW x) (k + 1) k k k sb #[.slice e1 n1 f1, .slice e2 n2 f2, .slice e3 n3 f3, .int .i64 p] (.slice (some ⟨gb, 0, none⟩) x.bkn x.bkn) (.slice (some ⟨gr, 0, none⟩) (k + 1) cr2) (.slice al k cl) (.slice aq k cq) (.slice ap k cp) (.slice (some ⟨gr, 0, none⟩) (k + 1) cr2) (.slice al k cl) (.slice aq k cq) (.slice ap k cp) E (atV R k (.slice e1 n1 f1)) L Q) := ⟨⟨hs0.1, hs0.2.1, hs0.2.2.1, hs0.2.2.2.1, HD0.out.sv.lt⟩, hs0.2.2.2.2.1, hs0.2.2.2.2.2.1, hs0.2.2.2.2.2.2, HD0.out.le, HD0.out.ne⟩
    have HG21 : Hid ((z0.setCell ⟨W0.heap.size, 1, none⟩ (.slice (some ⟨gr, 0, none⟩) (k + 1) cr2)).ownsRow s0 3 1 (.slice e2 n2 f2) n2 (intList ((viewW x).lf k) n2)) := row_carry HD0.out.sv.vt.rows.row hgA HX20.out (by decide) w1 (by decide) _ _
    have HG31 : Hid ((z0.setCell ⟨W0.heap.size, 1, none⟩ (.slice (some ⟨gr, 0, none⟩) (k + 1) cr2)).ownsRow s0 3 1 (.slice e3 n3 f3) n3 (intList ((viewW x).qf k) n3)) := row_carry HD0.out.sv.vt.rows.row hgA HX30.out (by decide) w1 (by decide) _ _
    have y0v := blk_cell HZ0.out.sv.box 2 _ rfl
    have y0s := blk_cell HZ0.out.sv.sbx 1 _ rfl
    have b1v := blk_cell HS1.out.sv.box 2 _ rfl
    have b1s := blk_cell HS1.out.sv.sbx 1 _ rfl
    have HD1 : Hid (RVt W W0 ((z0.setCell ⟨W0.heap.size, 1, none⟩ (.slice (some ⟨gr, 0, none⟩) (k + 1) cr2)).alloc (.cells #[.slice e2 n2 f2] 31)) w.heap.size U1.heap.size (W0.heap.size + 1) #[.slice asa x.san csa, .slice ald x.ldn cld, .slice abk x.bkn cbk] (viewW x) (k + 1) k k k sb #[.slice e1 n1 f1, .slice e2 n2 f2, .slice e3 n3 f3, .int .i64 p] (.slice (some ⟨gb, 0, none⟩) x.bkn x.bkn) (.slice (some ⟨gr, 0, none⟩) (k + 1) cr2) (.slice al k cl) (.slice aq k cq) (.slice ap k cp) (.slice (some ⟨gr, 0, none⟩) (k + 1) cr2) (.slice al k cl) (.slice aq k cq) (.slice ap k cp) E (atV R k (.slice e1 n1 f1)) L Q) := HS1.out.alloc _
    have HW1 : Hid (∀ i q, [(.slice e2 n2 f2 : Value)][i]? = some q → ((z0.setCell ⟨W0.heap.size, 1, none⟩ (.slice (some ⟨gr, 0, none⟩) (k + 1) cr2)).alloc (.cells #[.slice e2 n2 f2] 31)).cell? ((⟨z0.heap.size, 0, none⟩ : Addr).add i) = some q) := by have hh := World.news_of_block (cs := #[.slice e2 n2 f2]) (t := 31) (fr := (0, 0)) (heap_alloc_new (z0.setCell ⟨W0.heap.size, 1, none⟩ (.slice (some ⟨gr, 0, none⟩) (k + 1) cr2)) (.cells #[.slice e2 n2 f2] 31)); rw [show (z0.setCell ⟨W0.heap.size, 1, none⟩ (.slice (some ⟨gr, 0, none⟩) (k + 1) cr2)).heap.size = z0.heap.size by simp] at hh; exact hh
    have hl1 : W0.heap.size ≤ ((z0.setCell ⟨W0.heap.size, 1, none⟩ (.slice (some ⟨gr, 0, none⟩) (k + 1) cr2)).alloc (.cells #[.slice e2 n2 f2] 31)).heap.size := Nat.le_of_lt (blk_lt HD1.out.sv.box)
    have HX21 : Hid (((z0.setCell ⟨W0.heap.size, 1, none⟩ (.slice (some ⟨gr, 0, none⟩) (k + 1) cr2)).alloc (.cells #[.slice e2 n2 f2] 31)).ownsRow s0 3 1 (.slice e2 n2 f2) n2 (intList ((viewW x).lf k) n2)) := own_below (push (Below.refl _ _) _) HG21.out
    have HX31 : Hid (((z0.setCell ⟨W0.heap.size, 1, none⟩ (.slice (some ⟨gr, 0, none⟩) (k + 1) cr2)).alloc (.cells #[.slice e2 n2 f2] 31)).ownsRow s0 3 1 (.slice e3 n3 f3) n3 (intList ((viewW x).qf k) n3)) := own_below (push (Below.refl _ _) _) HG31.out
    clear hoA hgA hatA w1 w2 w3 w4 w5 w6 hs0 HD0 HW0 hl0
    gi_wp2_with (gi_at_builtin; refine Hid.out ?_)
    unfold Hid
    refine wpListIn_append_own_at _ (by rfl) (.tmp 25) (.tmp 28) 30 (by rfl) W0.heap.size 31 i0 (.slice none 0 0) 1 24 Tryz.underlying30 ii iz0 iz1 iz2 rfl (by decide) (.slice al k cl) k ((List.range k).map L) (by rfl) HD1.out.sv.vt.lan.row ⟨z0.heap.size, 0, none⟩ 1 1 [.slice e2 n2 f2] (by rfl) (by rfl) HW1.out (by intro q hq; simp at hq; rw [hq]; rfl) (by unfold maxLen; omega) (by omega) hl1 ?_
    intro v1 z1 hoA hgA hnA hatA
    obtain ⟨gl, cl2, rfl⟩ := ownsRow_succ hoA
    clear hnA
    obtain ⟨⟨w1, w2, w3⟩, w4, w5, w6⟩ := HD1.out.grow HD1.out.sv.vt.lan.row hgA (by decide) (by decide) (by decide)
    have HZ1 : Hid (RVt W W0 z1 w.heap.size U1.heap.size (W0.heap.size + 1) #[.slice asa x.san csa, .slice ald x.ldn cld, .slice abk x.bkn cbk] (viewW x) (k + 1) (k + 1) k k sb #[.slice e1 n1 f1, .slice e2 n2 f2, .slice e3 n3 f3, .int .i64 p] (.slice (some ⟨gb, 0, none⟩) x.bkn x.bkn) (.slice (some ⟨gr, 0, none⟩) (k + 1) cr2) (.slice (some ⟨gl, 0, none⟩) (k + 1) cl2) (.slice aq k cq) (.slice ap k cp) (.slice (some ⟨gr, 0, none⟩) (k + 1) cr2) (.slice al k cl) (.slice aq k cq) (.slice ap k cp) E (atV R k (.slice e1 n1 f1)) (atV L k (.slice e2 n2 f2)) Q) := ⟨⟨HD1.out.sv.vt.lane (by have g := own_base HX21.out HQQ.out.1; rw [HN2.out] at g ⊢; exact g) (fun i hi b q1 q2 => by have h5 := HQQ.out.2.2.1 i hi b q1; have h6 := (World.ownsRow.lt HX21.out b q2).1; omega) (fun i hi b q1 q2 => by have h5 := HQQ.out.2.2.2.1 i hi b q1; have h6 := (World.ownsRow.lt HX21.out b q2).1; omega) (fun b q2 q1 => by have h5 := HQQ.out.2.2.2.2 b q1; have h6 := (World.ownsRow.lt HX21.out b q2).1; omega) hgA hoA (fun b q => by rcases hatA with h | h; exact .inl (h.symm.trans q); exact .inr (by have e := h.symm.trans q; simp only [Option.some.injEq] at e; omega)), w1, w2, w3, HD1.out.sv.lt⟩, w4, w5, w6, HD1.out.le, HD1.out.ne⟩
    have zc1 := blk_cell HZ1.out.sv.box 2 _ rfl
    have zf1 := blk_free HZ1.out.sv.box 2
    have hs1 := HZ1.out.sto 2 (.slice (some ⟨gl, 0, none⟩) (k + 1) cl2)
    have HS2 : Hid (RVt W W0 (z1.setCell ⟨W0.heap.size, 2, none⟩ (.slice (some ⟨gl, 0, none⟩) (k + 1) cl2)) w.heap.size U1.heap.size (W0.heap.size + 1) #[.slice asa x.san csa, .slice ald x.ldn cld, .slice abk x.bkn cbk] (viewW x) (k + 1) (k + 1) k k sb #[.slice e1 n1 f1, .slice e2 n2 f2, .slice e3 n3 f3, .int .i64 p] (.slice (some ⟨gb, 0, none⟩) x.bkn x.bkn) (.slice (some ⟨gr, 0, none⟩) (k + 1) cr2) (.slice (some ⟨gl, 0, none⟩) (k + 1) cl2) (.slice aq k cq) (.slice ap k cp) (.slice (some ⟨gr, 0, none⟩) (k + 1) cr2) (.slice (some ⟨gl, 0, none⟩) (k + 1) cl2) (.slice aq k cq) (.slice ap k cp) E (atV R k (.slice e1 n1 f1)) (atV L k (.slice e2 n2 f2)) Q) := ⟨⟨hs1.1, hs1.2.1, hs1.2.2.1, hs1.2.2.2.1, HD1.out.sv.lt⟩, hs1.2.2.2.2.1, hs1.2.2.2.2.2.1, hs1.2.2.2.2.2.2, HD1.out.le, HD1.out.ne⟩
    have HG32 : Hid ((z1.setCell ⟨W0.heap.size, 2, none⟩ (.slice (some ⟨gl, 0, none⟩) (k + 1) cl2)).ownsRow s0 3 1 (.slice e3 n3 f3) n3 (intList ((viewW x).qf k) n3)) := row_carry HD1.out.sv.vt.lan.row hgA HX31.out (by decide) w1 (by decide) _ _
    have y1v := blk_cell HZ1.out.sv.box 3 _ rfl
    have y1s := blk_cell HZ1.out.sv.sbx 2 _ rfl
    have b2v := blk_cell HS2.out.sv.box 3 _ rfl
    have b2s := blk_cell HS2.out.sv.sbx 2 _ rfl
    have HD2 : Hid (RVt W W0 ((z1.setCell ⟨W0.heap.size, 2, none⟩ (.slice (some ⟨gl, 0, none⟩) (k + 1) cl2)).alloc (.cells #[.slice e3 n3 f3] 31)) w.heap.size U1.heap.size (W0.heap.size + 1) #[.slice asa x.san csa, .slice ald x.ldn cld, .slice abk x.bkn cbk] (viewW x) (k + 1) (k + 1) k k sb #[.slice e1 n1 f1, .slice e2 n2 f2, .slice e3 n3 f3, .int .i64 p] (.slice (some ⟨gb, 0, none⟩) x.bkn x.bkn) (.slice (some ⟨gr, 0, none⟩) (k + 1) cr2) (.slice (some ⟨gl, 0, none⟩) (k + 1) cl2) (.slice aq k cq) (.slice ap k cp) (.slice (some ⟨gr, 0, none⟩) (k + 1) cr2) (.slice (some ⟨gl, 0, none⟩) (k + 1) cl2) (.slice aq k cq) (.slice ap k cp) E (atV R k (.slice e1 n1 f1)) (atV L k (.slice e2 n2 f2)) Q) := HS2.out.alloc _
    have HW2 : Hid (∀ i q, [(.slice e3 n3 f3 : Value)][i]? = some q → ((z1.setCell ⟨W0.heap.size, 2, none⟩ (.slice (some ⟨gl, 0, none⟩) (k + 1) cl2)).alloc (.cells #[.slice e3 n3 f3] 31)).cell? ((⟨z1.heap.size, 0, none⟩ : Addr).add i) = some q) := by have hh := World.news_of_block (cs := #[.slice e3 n3 f3]) (t := 31) (fr := (0, 0)) (heap_alloc_new (z1.setCell ⟨W0.heap.size, 2, none⟩ (.slice (some ⟨gl, 0, none⟩) (k + 1) cl2)) (.cells #[.slice e3 n3 f3] 31)); rw [show (z1.setCell ⟨W0.heap.size, 2, none⟩ (.slice (some ⟨gl, 0, none⟩) (k + 1) cl2)).heap.size = z1.heap.size by simp] at hh; exact hh
    have hl2 : W0.heap.size ≤ ((z1.setCell ⟨W0.heap.size, 2, none⟩ (.slice (some ⟨gl, 0, none⟩) (k + 1) cl2)).alloc (.cells #[.slice e3 n3 f3] 31)).heap.size := Nat.le_of_lt (blk_lt HD2.out.sv.box)
    have HX32 : Hid (((z1.setCell ⟨W0.heap.size, 2, none⟩ (.slice (some ⟨gl, 0, none⟩) (k + 1) cl2)).alloc (.cells #[.slice e3 n3 f3] 31)).ownsRow s0 3 1 (.slice e3 n3 f3) n3 (intList ((viewW x).qf k) n3)) := own_below (push (Below.refl _ _) _) HG32.out
    clear hoA hgA hatA w1 w2 w3 w4 w5 w6 hs1 HD1 HW1 hl1
    gi_wp2_with (gi_at_builtin; refine Hid.out ?_)
    unfold Hid
    refine wpListIn_append_own_at _ (by rfl) (.tmp 32) (.tmp 35) 30 (by rfl) W0.heap.size 31 i0 (.slice none 0 0) 1 24 Tryz.underlying30 ii iz0 iz1 iz2 rfl (by decide) (.slice aq k cq) k ((List.range k).map Q) (by rfl) HD2.out.sv.vt.ber.row ⟨z1.heap.size, 0, none⟩ 1 1 [.slice e3 n3 f3] (by rfl) (by rfl) HW2.out (by intro q hq; simp at hq; rw [hq]; rfl) (by unfold maxLen; omega) (by omega) hl2 ?_
    intro v2 z2 hoA hgA hnA hatA
    obtain ⟨gq, cq2, rfl⟩ := ownsRow_succ hoA
    clear hnA
    obtain ⟨⟨w1, w2, w3⟩, w4, w5, w6⟩ := HD2.out.grow HD2.out.sv.vt.ber.row hgA (by decide) (by decide) (by decide)
    have HZ2 : Hid (RVt W W0 z2 w.heap.size U1.heap.size (W0.heap.size + 1) #[.slice asa x.san csa, .slice ald x.ldn cld, .slice abk x.bkn cbk] (viewW x) (k + 1) (k + 1) (k + 1) k sb #[.slice e1 n1 f1, .slice e2 n2 f2, .slice e3 n3 f3, .int .i64 p] (.slice (some ⟨gb, 0, none⟩) x.bkn x.bkn) (.slice (some ⟨gr, 0, none⟩) (k + 1) cr2) (.slice (some ⟨gl, 0, none⟩) (k + 1) cl2) (.slice (some ⟨gq, 0, none⟩) (k + 1) cq2) (.slice ap k cp) (.slice (some ⟨gr, 0, none⟩) (k + 1) cr2) (.slice (some ⟨gl, 0, none⟩) (k + 1) cl2) (.slice aq k cq) (.slice ap k cp) E (atV R k (.slice e1 n1 f1)) (atV L k (.slice e2 n2 f2)) (atV Q k (.slice e3 n3 f3))) := ⟨⟨HD2.out.sv.vt.berth (by have g := own_base HX32.out HQQ.out.1; rw [HN3.out] at g ⊢; exact g) (fun i hi b q1 q2 => by have h5 := HQQ.out.2.2.2.1 i hi b q1; have h6 := (World.ownsRow.lt HX32.out b q2).1; omega) (fun i hi b q1 q2 => by by_cases e : i = k; (subst e; rw [atV_at] at q1; exact HFA.out b q1 q2); (rw [atV_ne _ _ _ _ e] at q1; have h5 := HQQ.out.2.2.1 i (by omega) b q1; have h6 := (World.ownsRow.lt HX32.out b q2).1; omega)) (fun b q2 q1 => by have h5 := HQQ.out.2.2.2.2 b q1; have h6 := (World.ownsRow.lt HX32.out b q2).1; omega) hgA hoA (fun b q => by rcases hatA with h | h; exact .inl (h.symm.trans q); exact .inr (by have e := h.symm.trans q; simp only [Option.some.injEq] at e; omega)), w1, w2, w3, HD2.out.sv.lt⟩, w4, w5, w6, HD2.out.le, HD2.out.ne⟩
    have zc2 := blk_cell HZ2.out.sv.box 3 _ rfl
    have zf2 := blk_free HZ2.out.sv.box 3
    have hs2 := HZ2.out.sto 3 (.slice (some ⟨gq, 0, none⟩) (k + 1) cq2)
    have HS3 : Hid (RVt W W0 (z2.setCell ⟨W0.heap.size, 3, none⟩ (.slice (some ⟨gq, 0, none⟩) (k + 1) cq2)) w.heap.size U1.heap.size (W0.heap.size + 1) #[.slice asa x.san csa, .slice ald x.ldn cld, .slice abk x.bkn cbk] (viewW x) (k + 1) (k + 1) (k + 1) k sb #[.slice e1 n1 f1, .slice e2 n2 f2, .slice e3 n3 f3, .int .i64 p] (.slice (some ⟨gb, 0, none⟩) x.bkn x.bkn) (.slice (some ⟨gr, 0, none⟩) (k + 1) cr2) (.slice (some ⟨gl, 0, none⟩) (k + 1) cl2) (.slice (some ⟨gq, 0, none⟩) (k + 1) cq2) (.slice ap k cp) (.slice (some ⟨gr, 0, none⟩) (k + 1) cr2) (.slice (some ⟨gl, 0, none⟩) (k + 1) cl2) (.slice (some ⟨gq, 0, none⟩) (k + 1) cq2) (.slice ap k cp) E (atV R k (.slice e1 n1 f1)) (atV L k (.slice e2 n2 f2)) (atV Q k (.slice e3 n3 f3))) := ⟨⟨hs2.1, hs2.2.1, hs2.2.2.1, hs2.2.2.2.1, HD2.out.sv.lt⟩, hs2.2.2.2.2.1, hs2.2.2.2.2.2.1, hs2.2.2.2.2.2.2, HD2.out.le, HD2.out.ne⟩
    have y2v := blk_cell HZ2.out.sv.box 4 _ rfl
    have y2s := blk_cell HZ2.out.sv.sbx 3 _ rfl
    have b3v := blk_cell HS3.out.sv.box 4 _ rfl
    have b3s := blk_cell HS3.out.sv.sbx 3 _ rfl
    have HD3 : Hid (RVt W W0 ((z2.setCell ⟨W0.heap.size, 3, none⟩ (.slice (some ⟨gq, 0, none⟩) (k + 1) cq2)).alloc (.cells #[.int .i64 p] 3)) w.heap.size U1.heap.size (W0.heap.size + 1) #[.slice asa x.san csa, .slice ald x.ldn cld, .slice abk x.bkn cbk] (viewW x) (k + 1) (k + 1) (k + 1) k sb #[.slice e1 n1 f1, .slice e2 n2 f2, .slice e3 n3 f3, .int .i64 p] (.slice (some ⟨gb, 0, none⟩) x.bkn x.bkn) (.slice (some ⟨gr, 0, none⟩) (k + 1) cr2) (.slice (some ⟨gl, 0, none⟩) (k + 1) cl2) (.slice (some ⟨gq, 0, none⟩) (k + 1) cq2) (.slice ap k cp) (.slice (some ⟨gr, 0, none⟩) (k + 1) cr2) (.slice (some ⟨gl, 0, none⟩) (k + 1) cl2) (.slice (some ⟨gq, 0, none⟩) (k + 1) cq2) (.slice ap k cp) E (atV R k (.slice e1 n1 f1)) (atV L k (.slice e2 n2 f2)) (atV Q k (.slice e3 n3 f3))) := HS3.out.alloc _
    have HW3 : Hid (∀ i q, [(.int .i64 p : Value)][i]? = some q → ((z2.setCell ⟨W0.heap.size, 3, none⟩ (.slice (some ⟨gq, 0, none⟩) (k + 1) cq2)).alloc (.cells #[.int .i64 p] 3)).cell? ((⟨z2.heap.size, 0, none⟩ : Addr).add i) = some q) := by have hh := World.news_of_block (cs := #[.int .i64 p]) (t := 3) (fr := (0, 0)) (heap_alloc_new (z2.setCell ⟨W0.heap.size, 3, none⟩ (.slice (some ⟨gq, 0, none⟩) (k + 1) cq2)) (.cells #[.int .i64 p] 3)); rw [show (z2.setCell ⟨W0.heap.size, 3, none⟩ (.slice (some ⟨gq, 0, none⟩) (k + 1) cq2)).heap.size = z2.heap.size by simp] at hh; exact hh
    have hl3 : W0.heap.size ≤ ((z2.setCell ⟨W0.heap.size, 3, none⟩ (.slice (some ⟨gq, 0, none⟩) (k + 1) cq2)).alloc (.cells #[.int .i64 p] 3)).heap.size := Nat.le_of_lt (blk_lt HD3.out.sv.box)
    clear hoA hgA hatA w1 w2 w3 w4 w5 w6 hs2 HD2 HW2 hl2
    gi_wp2_with (gi_at_builtin; refine Hid.out ?_)
    unfold Hid
    refine wpListIn_append_own_at _ (by rfl) (.tmp 39) (.tmp 42) 31 (by rfl) W0.heap.size 3 p0 (.int .i64 0) 1 8 Tryz.underlying31 pi pz0 pz1 pz2 rfl (by decide) (.slice ap k cp) k (intList (viewW x).pf k) (by rfl) HD3.out.sv.vt.peo ⟨z2.heap.size, 0, none⟩ 1 1 [.int .i64 p] (by rfl) (by rfl) HW3.out (by intro q hq; simp at hq; rw [hq]; rfl) (by unfold maxLen; omega) (by omega) hl3 ?_
    intro v3 z3 hoA hgA hnA hatA
    obtain ⟨gp, cp2, rfl⟩ := ownsRow_succ hoA
    clear hnA
    obtain ⟨⟨w1, w2, w3⟩, w4, w5, w6⟩ := HD3.out.grow HD3.out.sv.vt.peo hgA (by decide) (by decide) (by decide)
    have HZ3 : Hid (RVt W W0 z3 w.heap.size U1.heap.size (W0.heap.size + 1) #[.slice asa x.san csa, .slice ald x.ldn cld, .slice abk x.bkn cbk] (viewW x) (k + 1) (k + 1) (k + 1) (k + 1) sb #[.slice e1 n1 f1, .slice e2 n2 f2, .slice e3 n3 f3, .int .i64 p] (.slice (some ⟨gb, 0, none⟩) x.bkn x.bkn) (.slice (some ⟨gr, 0, none⟩) (k + 1) cr2) (.slice (some ⟨gl, 0, none⟩) (k + 1) cl2) (.slice (some ⟨gq, 0, none⟩) (k + 1) cq2) (.slice (some ⟨gp, 0, none⟩) (k + 1) cp2) (.slice (some ⟨gr, 0, none⟩) (k + 1) cr2) (.slice (some ⟨gl, 0, none⟩) (k + 1) cl2) (.slice (some ⟨gq, 0, none⟩) (k + 1) cq2) (.slice ap k cp) E (atV R k (.slice e1 n1 f1)) (atV L k (.slice e2 n2 f2)) (atV Q k (.slice e3 n3 f3))) := ⟨⟨HD3.out.sv.vt.people hgA (by have g := hoA; rw [HPF.out] at g; exact g) (fun b q => by rcases hatA with h | h; exact .inl (h.symm.trans q); exact .inr (by have e := h.symm.trans q; simp only [Option.some.injEq] at e; omega)), w1, w2, w3, HD3.out.sv.lt⟩, w4, w5, w6, HD3.out.le, HD3.out.ne⟩
    have zc3 := blk_cell HZ3.out.sv.box 4 _ rfl
    have zf3 := blk_free HZ3.out.sv.box 4
    have hs3 := HZ3.out.sto 4 (.slice (some ⟨gp, 0, none⟩) (k + 1) cp2)
    have HS4 : Hid (RVt W W0 (z3.setCell ⟨W0.heap.size, 4, none⟩ (.slice (some ⟨gp, 0, none⟩) (k + 1) cp2)) w.heap.size U1.heap.size (W0.heap.size + 1) #[.slice asa x.san csa, .slice ald x.ldn cld, .slice abk x.bkn cbk] (viewW x) (k + 1) (k + 1) (k + 1) (k + 1) sb #[.slice e1 n1 f1, .slice e2 n2 f2, .slice e3 n3 f3, .int .i64 p] (.slice (some ⟨gb, 0, none⟩) x.bkn x.bkn) (.slice (some ⟨gr, 0, none⟩) (k + 1) cr2) (.slice (some ⟨gl, 0, none⟩) (k + 1) cl2) (.slice (some ⟨gq, 0, none⟩) (k + 1) cq2) (.slice (some ⟨gp, 0, none⟩) (k + 1) cp2) (.slice (some ⟨gr, 0, none⟩) (k + 1) cr2) (.slice (some ⟨gl, 0, none⟩) (k + 1) cl2) (.slice (some ⟨gq, 0, none⟩) (k + 1) cq2) (.slice (some ⟨gp, 0, none⟩) (k + 1) cp2) E (atV R k (.slice e1 n1 f1)) (atV L k (.slice e2 n2 f2)) (atV Q k (.slice e3 n3 f3))) := ⟨⟨hs3.1, hs3.2.1, hs3.2.2.1, hs3.2.2.2.1, HD3.out.sv.lt⟩, hs3.2.2.2.2.1, hs3.2.2.2.2.2.1, hs3.2.2.2.2.2.2, HD3.out.le, HD3.out.ne⟩
    clear hoA hgA hatA w1 w2 w3 w4 w5 w6 hs3 HD3 HW3 hl3
    gi_wp2
    refine ⟨HS4.out.ko, ⟨HS4.out.ba, HS4.out.obx.trans HS0.out.obx.symm⟩, ?_⟩
    unfold SeeI
    rw [HLE.out]
    exact ⟨some ⟨gr, 0, none⟩, some ⟨gl, 0, none⟩, some ⟨gq, 0, none⟩, some ⟨gp, 0, none⟩, cr2, cl2, cq2, cp2, _, _, _, HS4.out.sv.vt, HS4.out.sv.box, HS4.out.obx, HS4.out.sv.bel⟩
  case done =>
    rintro D xs W hD hxs ⟨ar, al, aq, ap, cr, cl, cq, cp, R, L, Q, h⟩ hK
    rw [hxs] at h
    have HV : Hid (viewA x = viewW x) := viewA_yes HOK.out
    have bRr := blk_below bR h.bel
    have hwW : Below w.heap.size w W := after hbw2 h.bel
    have hWl := blk_lt h.box
    have hDl : D < W.heap.size := (Array.getElem?_eq_some_iff.1 hK).1
    have v0 := blk_cell h.box 0 _ rfl
    have z0 := blk_cell bRr 0 _ rfl
    have f0 := blk_free bRr 0
    have v1 := blk_cell h.box 1 _ rfl
    have z1 := blk_cell bRr 1 _ rfl
    have f1 := blk_free bRr 1
    have v2 := blk_cell h.box 2 _ rfl
    have z2 := blk_cell bRr 2 _ rfl
    have f2 := blk_free bRr 2
    have v3 := blk_cell h.box 3 _ rfl
    have z3 := blk_cell bRr 3 _ rfl
    have f3 := blk_free bRr 3
    have v4 := blk_cell h.box 4 _ rfl
    have z4 := blk_cell bRr 4 _ rfl
    have f4 := blk_free bRr 4
    have hkF : Kept W (((((W.setCell ⟨w.heap.size + 1, 0, none⟩ (.slice (some ⟨gb, 0, none⟩) x.bkn x.bkn)).setCell ⟨w.heap.size + 1, 1, none⟩ (.slice ar x.san cr)).setCell ⟨w.heap.size + 1, 2, none⟩ (.slice al x.san cl)).setCell ⟨w.heap.size + 1, 3, none⟩ (.slice aq x.san cq)).setCell ⟨w.heap.size + 1, 4, none⟩ (.slice ap x.san cp)) (fun b => b = w.heap.size + 1) := ((((((Kept.refl W (fun b => b = w.heap.size + 1)).set (a := ⟨w.heap.size + 1, 0, none⟩) rfl _).set (a := ⟨w.heap.size + 1, 1, none⟩) rfl _).set (a := ⟨w.heap.size + 1, 2, none⟩) rfl _).set (a := ⟨w.heap.size + 1, 3, none⟩) rfl _).set (a := ⟨w.heap.size + 1, 4, none⟩) rfl _)
    have rF : (((((W.setCell ⟨w.heap.size + 1, 0, none⟩ (.slice (some ⟨gb, 0, none⟩) x.bkn x.bkn)).setCell ⟨w.heap.size + 1, 1, none⟩ (.slice ar x.san cr)).setCell ⟨w.heap.size + 1, 2, none⟩ (.slice al x.san cl)).setCell ⟨w.heap.size + 1, 3, none⟩ (.slice aq x.san cq)).setCell ⟨w.heap.size + 1, 4, none⟩ (.slice ap x.san cp)).heap[w.heap.size + 1]? = some (.cells #[.slice (some ⟨gb, 0, none⟩) x.bkn x.bkn, .slice ar x.san cr, .slice al x.san cl, .slice aq x.san cq, .slice ap x.san cp] 33 (0, 0)) := blk_set (blk_set (blk_set (blk_set (blk_set (bRr) 0 _) 1 _) 2 _) 3 _) 4 _
    have hbF : Below w.heap.size w (((((W.setCell ⟨w.heap.size + 1, 0, none⟩ (.slice (some ⟨gb, 0, none⟩) x.bkn x.bkn)).setCell ⟨w.heap.size + 1, 1, none⟩ (.slice ar x.san cr)).setCell ⟨w.heap.size + 1, 2, none⟩ (.slice al x.san cl)).setCell ⟨w.heap.size + 1, 3, none⟩ (.slice aq x.san cq)).setCell ⟨w.heap.size + 1, 4, none⟩ (.slice ap x.san cp)) := setV (setV (setV (setV (setV (hwW) (by omega) _) (by omega) _) (by omega) _) (by omega) _) (by omega) _
    have HT1 : Hid (VTo (((((W.setCell ⟨w.heap.size + 1, 0, none⟩ (.slice (some ⟨gb, 0, none⟩) x.bkn x.bkn)).setCell ⟨w.heap.size + 1, 1, none⟩ (.slice ar x.san cr)).setCell ⟨w.heap.size + 1, 2, none⟩ (.slice al x.san cl)).setCell ⟨w.heap.size + 1, 3, none⟩ (.slice aq x.san cq)).setCell ⟨w.heap.size + 1, 4, none⟩ (.slice ap x.san cp)) U1.heap.size W0.heap.size (viewW x) x.san x.san x.san x.san (.slice (some ⟨gb, 0, none⟩) x.bkn x.bkn) (.slice ar x.san cr) (.slice al x.san cl) (.slice aq x.san cq) (.slice ap x.san cp) E R L Q) := h.vt.other hkF (fun b e => by have e : b = w.heap.size + 1 := e; subst e; exact ⟨_, _, bRr, by decide, by decide, by decide, by decide, by decide⟩)
    have hKF : (((((W.setCell ⟨w.heap.size + 1, 0, none⟩ (.slice (some ⟨gb, 0, none⟩) x.bkn x.bkn)).setCell ⟨w.heap.size + 1, 1, none⟩ (.slice ar x.san cr)).setCell ⟨w.heap.size + 1, 2, none⟩ (.slice al x.san cl)).setCell ⟨w.heap.size + 1, 3, none⟩ (.slice aq x.san cq)).setCell ⟨w.heap.size + 1, 4, none⟩ (.slice ap x.san cp)).heap[D]? = some (.deferred (some [])) := (hkF.block D hDl (fun e => by have e : D = w.heap.size + 1 := e; omega)).trans hK
    have HRL : Hid (w.heap.size ≤ U1.heap.size) := hbw1.size
    clear HT0
    go_wp2
    generalize ((((W.setCell ⟨w.heap.size + 1, 0, none⟩ (.slice (some ⟨gb, 0, none⟩) x.bkn x.bkn)).setCell ⟨w.heap.size + 1, 1, none⟩ (.slice ar x.san cr)).setCell ⟨w.heap.size + 1, 2, none⟩ (.slice al x.san cl)).setCell ⟨w.heap.size + 1, 3, none⟩ (.slice aq x.san cq)).setCell ⟨w.heap.size + 1, 4, none⟩ (.slice ap x.san cp) = UF at rF hbF HT1 hKF ⊢
    clear v0 v1 v2 v3 v4 z0 z1 z2 z3 z4 f0 f1 f2 f3 f4 hkF
    refine ⟨by simp, .inl ⟨_, _, rfl, run_takeDeferred hKF, ?_⟩⟩
    have rG : (UF.putObj D (.deferred none)).heap[w.heap.size + 1]? = some (.cells #[.slice (some ⟨gb, 0, none⟩) x.bkn x.bkn, .slice ar x.san cr, .slice al x.san cl, .slice aq x.san cq, .slice ap x.san cp] 33 (0, 0)) := (World.putObj_heap_other (by omega)).trans rF
    have hbG : Below w.heap.size w (UF.putObj D (.deferred none)) := hbF.grown (grownBy_putObj' UF D _) hbF.size (fun j e => by cases e; omega)
    have HT2 : Hid _ := VTo.whole (V := viewW x) (HT1.out.nocell (kept_row (grownBy_putObj' UF D (.deferred none))) (fun b e => by cases e; exact ⟨_, hKF, rfl⟩))
    have z0 := blk_cell rG 0 _ rfl
    have z1 := blk_cell rG 1 _ rfl
    have z2 := blk_cell rG 2 _ rfl
    have z3 := blk_cell rG 3 _ rfl
    have z4 := blk_cell rG 4 _ rfl
    refine ⟨.tuple #[.agg #[.slice (some ⟨gb, 0, none⟩) x.bkn x.bkn, .slice ar x.san cr, .slice al x.san cl, .slice aq x.san cq, .slice ap x.san cp], .bool true], by simp [results, Tryz.results7, go_sem, z0, z1, z2, z3, z4], ?_, hbG⟩
    rw [HV.out, ed]
    exact ⟨_, _, _, _, _, E, R, L, Q, U1.heap.size, W0.heap.size, HRL.out, rfl, HT2.out⟩
end Go.Proofs.YtlelckbeoclhbaaGreat

namespace Go.Proofs.YtlelckbeoclhbaaGreat
open Go.RowKit Go.Shelf Classical
section
variable {w w' : World} {base lim : Nat} {V : ViewW} {ab ar al aq ap : Option Addr} {cb cr cl cq cp nb n1 n2 n3 n4 : Nat} {E R L Q : Nat → Value}
theorem ownView_at' (h : OwnView w base lim V (.slice ab nb cb) (.slice ar n1 cr) (.slice al n2 cl) (.slice aq n3 cq) (.slice ap n4 cp) E R L Q) : ViewAt w ab ar al aq ap V := by
  obtain ⟨ab', cb', ar', cr', al', cl', aq', cq', ap', cp', e1, e2, e3, e4, e5, hA⟩ := h.form
  cases e1; cases e2; cases e3; cases e4; cases e5
  exact hA
theorem ownView_at (h : OwnView w base lim V (.slice ab V.bn cb) (.slice ar V.N cr) (.slice al V.N cl) (.slice aq V.N cq) (.slice ap V.N cp) E R L Q) : ViewAt w ab ar al aq ap V := ownView_at' h
theorem vwB_not {vb vr vl vq vp : Value} {g : Nat} {cs : Array Value} (h : OwnView w base lim V vb vr vl vq vp E R L Q) (hb : w.heap[g]? = some (.cells cs 33 (0, 0))) : ∀ b, VwB V vb vp E R L Q b → ¬ b = g := by
  rintro b ((e | ⟨i, hi, e⟩) | ⟨i, hi, e⟩ | ⟨i, hi, e⟩ | ⟨i, hi, e⟩ | e)
  · exact own_notE h.bks.row hb (by decide) b e
  · exact own_notE (h.bks.legs i hi) hb (by decide) b e
  · exact own_notE (h.rows.each i hi) hb (by decide) b e
  · exact own_notE (h.lan.each i hi) hb (by decide) b e
  · exact own_notE (h.ber.each i hi) hb (by decide) b e
  · exact own_notE h.peo hb (by decide) b e
end
theorem lawViewOf (cs : List Value) (x : Off) (w : World) (hs : Off.Short x 1000000000000000) (hi : Off.Is w cs x) :
    Calls Tryz.prog 3 #[.agg cs.toArray] w fun e w' => e = .returned (.bool true) ∧ Below w.heap.size w w' := by
  have HI : Hid (Off.Is w cs x) := hi
  obtain ⟨asa, csa, ald, cld, abk, cbk, rfl, h1, s1, h2, s2, h3, s3⟩ := hi
  clear h1 s1 h2 s2 h3 s3
  have HS : Hid (Off.Short x 1000000000000000) := hs
  clear hs
  have HB : Below w.heap.size w (w.alloc (.cells #[.slice asa x.san csa, .slice ald x.ldn cld, .slice abk x.bkn cbk] 26)) := push (Below.refl _ _) _
  have A := heap_alloc_new w (.cells #[.slice asa x.san csa, .slice ald x.ldn cld, .slice abk x.bkn cbk] 26)
  have HAW : Hid (w.heap.size < (w.alloc (.cells #[.slice asa x.san csa, .slice ald x.ldn cld, .slice abk x.bkn cbk] 26)).heap.size) := by show w.heap.size < (w.alloc (.cells #[.slice asa x.san csa, .slice ald x.ldn cld, .slice abk x.bkn cbk] 26)).heap.size; simp
  go_enter Tryz.func3, Tryz.ntmps3
  go_wp2_with fail
  generalize w.alloc (.cells #[.slice asa x.san csa, .slice ald x.ldn cld, .slice abk x.bkn cbk] 26) = wA at HB A HAW ⊢
  refine (szOffice_any [.slice asa x.san csa, .slice ald x.ldn cld, .slice abk x.bkn cbk] x _ HS.out (HI.out.below HB)).mono ?_
  rintro e w1 ⟨r, rfl, hr, hb⟩
  have HS1 : Hid (w.heap.size < w1.heap.size) := Nat.lt_of_lt_of_le HAW.out hb.size
  replace A := blk_below A hb
  replace HB := after HB hb
  clear hb
  rcases hr with rfl | ⟨r0, _, ht⟩
  · go_wp2
    go_ret
    exact ⟨rfl, HB⟩
  have d0 : decide (r < 0) = false := by simpa using r0
  have HT : Hid (Off.Short x 1048576) := ht
  clear ht HS
  obtain ⟨V, hV⟩ : ∃ V, V = viewA x := ⟨_, rfl⟩
  obtain ⟨ok, hok⟩ : ∃ q : Bool, q = decide (OffOk x) := ⟨_, rfl⟩
  have HVS : Hid (VShort V) := by rw [hV]; exact viewA_short HT.out
  have HSP : Hid (∀ cs u, Off.Is u cs x → Calls Tryz.prog 5 #[.agg cs.toArray] u fun e u' => (∃ ab cb ar cr al cl aq cq ap cp, e = .returned (.tuple #[.agg #[.slice ab V.bn cb, .slice ar V.N cr, .slice al V.N cl, .slice aq V.N cq, .slice ap V.N cp], .bool ok]) ∧ ViewAt u' ab ar al aq ap V) ∧ Below u.heap.size u u') := by
    rw [hV, hok]
    rintro _ u ⟨asa, csa, ald, cld, abk, cbk, rfl, h1, s1, h2, s2, h3, s3⟩
    exact specView_raw x asa ald abk csa cld cbk u HT.out h1 h2 h3 s3.1
  have HIM : Hid (∀ cs u, Off.Is u cs x → Calls Tryz.prog 7 #[.agg cs.toArray] u fun e u' => (∃ ab cb ar cr al cl aq cq ap cp E R L Q base lim, u.heap.size ≤ base ∧ e = .returned (.tuple #[.agg #[.slice ab V.bn cb, .slice ar V.N cr, .slice al V.N cl, .slice aq V.N cq, .slice ap V.N cp], .bool ok]) ∧ OwnView u' base lim V (.slice ab V.bn cb) (.slice ar V.N cr) (.slice al V.N cl) (.slice aq V.N cq) (.slice ap V.N cp) E R L Q) ∧ Below u.heap.size u u') := by
    rw [hV, hok]
    rintro _ u ⟨asa, csa, ald, cld, abk, cbk, rfl, h1, s1, h2, s2, h3, s3⟩
    refine (implView_raw x asa ald abk csa cld cbk u HT.out h1 h2 h3 s3.1).mono ?_
    rintro e u' ⟨⟨vb, vr, vl, vq, vp, E, R, L, Q, base, lim, hle, rfl, ho⟩, hb⟩
    obtain ⟨ab, cb, ar, cr, al, cl, aq, cq, ap, cp, rfl, rfl, rfl, rfl, rfl, _⟩ := ho.form
    exact ⟨⟨ab, cb, ar, cr, al, cl, aq, cq, ap, cp, E, R, L, Q, base, lim, hle, rfl, ho⟩, hb⟩
  clear hV hok
  have q0 := blk_cell A 0 _ rfl
  have q1 := blk_cell A 1 _ rfl
  have q2 := blk_cell A 2 _ rfl
  go_wp2_with fail
  refine (toOffice_any [.slice asa x.san csa, .slice ald x.ldn cld, .slice abk x.bkn cbk] x _ HT.out (HI.out.below HB)).mono ?_
  rintro e w2 ⟨cs2, rfl, hin, hb⟩
  clear q0 q1 q2
  replace A := blk_below A hb
  replace HB := after HB hb
  have HS2 : Hid (w1.heap.size ≤ w2.heap.size) := hb.size
  clear hb
  have is2 := hin.is HT.out
  clear hin
  go_wp2_with fail
  refine (HSP.out cs2 _ is2).mono ?_
  rintro e w3 ⟨⟨ab, cb, ar, cr, al, cl, aq, cq, ap, cp, rfl, vS⟩, hb⟩
  clear is2
  have HS3 : Hid (w2.heap.size ≤ w3.heap.size) := hb.size
  replace A := blk_below A hb
  replace HB := after HB hb
  clear hb
  have hb : Below w3.heap.size w3 (w3.alloc (.cells #[.slice ab V.bn cb, .slice ar V.N cr, .slice al V.N cl, .slice aq V.N cq, .slice ap V.N cp] 33)) := push (Below.refl _ _) _
  have X4 := heap_alloc_new w3 (.cells #[.slice ab V.bn cb, .slice ar V.N cr, .slice al V.N cl, .slice aq V.N cq, .slice ap V.N cp] 33)
  have HSB : Hid (w3.heap.size < (w3.alloc (.cells #[.slice ab V.bn cb, .slice ar V.N cr, .slice al V.N cl, .slice aq V.N cq, .slice ap V.N cp] 33)).heap.size) := by show w3.heap.size < (w3.alloc (.cells #[.slice ab V.bn cb, .slice ar V.N cr, .slice al V.N cl, .slice aq V.N cq, .slice ap V.N cp] 33)).heap.size; simp
  replace A := blk_below A hb
  replace HB := after HB hb
  replace vS := vS.below hb
  clear hb
  have q0 := blk_cell A 0 _ rfl
  have q1 := blk_cell A 1 _ rfl
  have q2 := blk_cell A 2 _ rfl
  go_wp2_with fail
  generalize w3.alloc (.cells #[.slice ab V.bn cb, .slice ar V.N cr, .slice al V.N cl, .slice aq V.N cq, .slice ap V.N cp] 33) = wB at A HB X4 vS HSB ⊢
  have B3 : Below wB.heap.size wB wB := Below.refl _ _
  have HVS3 : Hid (ViewAt wB ab ar al aq ap V) := vS
  clear vS
  refine (toOffice_any [.slice asa x.san csa, .slice ald x.ldn cld, .slice abk x.bkn cbk] x _ HT.out (HI.out.below HB)).mono ?_
  rintro e w4 ⟨cs4, rfl, hin4, hb⟩
  clear q0 q1 q2
  have HS4 : Hid (wB.heap.size ≤ w4.heap.size) := hb.size
  replace A := blk_below A hb
  replace HB := after HB hb
  replace X4 := blk_below X4 hb
  replace B3 := after B3 hb
  clear hb
  have HIN4 : Hid (Off.In w4 wB.heap.size w4.heap.size cs4 x) := hin4
  obtain ⟨m1, m2, gsa, l, c, gld, C, gbk, E0, rfl, _, _, _, _⟩ := hin4
  unfold whole
  have IN : Off.In w4 wB.heap.size w4.heap.size [.slice (some ⟨gsa, 0, none⟩) x.san x.san, .slice (some ⟨gld, 0, none⟩) x.ldn x.ldn, .slice (some ⟨gbk, 0, none⟩) x.bkn x.bkn] x := HIN4.out
  clear HIN4
  have hb : Below w4.heap.size w4 (w4.alloc (.cells #[.slice (some ⟨gsa, 0, none⟩) x.san x.san, .slice (some ⟨gld, 0, none⟩) x.ldn x.ldn, .slice (some ⟨gbk, 0, none⟩) x.bkn x.bkn] 39)) := push (Below.refl _ _) _
  have X6 := heap_alloc_new w4 (.cells #[.slice (some ⟨gsa, 0, none⟩) x.san x.san, .slice (some ⟨gld, 0, none⟩) x.ldn x.ldn, .slice (some ⟨gbk, 0, none⟩) x.bkn x.bkn] 39)
  have HS5 : Hid (w4.heap.size < (w4.alloc (.cells #[.slice (some ⟨gsa, 0, none⟩) x.san x.san, .slice (some ⟨gld, 0, none⟩) x.ldn x.ldn, .slice (some ⟨gbk, 0, none⟩) x.bkn x.bkn] 39)).heap.size) := by show w4.heap.size < (w4.alloc (.cells #[.slice (some ⟨gsa, 0, none⟩) x.san x.san, .slice (some ⟨gld, 0, none⟩) x.ldn x.ldn, .slice (some ⟨gbk, 0, none⟩) x.bkn x.bkn] 39)).heap.size; simp
  replace A := blk_below A hb
  replace HB := after HB hb
  replace X4 := blk_below X4 hb
  replace B3 := after B3 hb
  replace IN := IN.below hb
  clear hb
  go_wp2_with fail
  generalize w4.alloc (.cells #[.slice (some ⟨gsa, 0, none⟩) x.san x.san, .slice (some ⟨gld, 0, none⟩) x.ldn x.ldn, .slice (some ⟨gbk, 0, none⟩) x.bkn x.bkn] 39) = w5 at A HB X4 B3 X6 IN HS5 ⊢
  refine (HIM.out [.slice (some ⟨gsa, 0, none⟩) x.san x.san, .slice (some ⟨gld, 0, none⟩) x.ldn x.ldn, .slice (some ⟨gbk, 0, none⟩) x.bkn x.bkn] _ (IN.is HT.out)).mono ?_
  rintro e w6 ⟨⟨abg, cbg, arg, crg, alg, clg, aqg, cqg, apg, cpg, E, R, L, Q, base, lim, hbase, rfl, vG⟩, hb⟩
  have HB65 : Hid (w5.heap.size ≤ w6.heap.size) := hb.size
  have HBS : Hid (w5.heap.size ≤ base) := hbase
  clear hbase
  replace A := blk_below A hb
  replace HB := after HB hb
  replace X4 := blk_below X4 hb
  replace B3 := after B3 hb
  replace IN := IN.below hb
  replace X6 := blk_below X6 hb
  clear hb
  have hb : Below w6.heap.size w6 (w6.alloc (.cells #[.slice abg V.bn cbg, .slice arg V.N crg, .slice alg V.N clg, .slice aqg V.N cqg, .slice apg V.N cpg] 33)) := push (Below.refl _ _) _
  have X7 := heap_alloc_new w6 (.cells #[.slice abg V.bn cbg, .slice arg V.N crg, .slice alg V.N clg, .slice aqg V.N cqg, .slice apg V.N cpg] 33)
  have HS7 : Hid (w6.heap.size < (w6.alloc (.cells #[.slice abg V.bn cbg, .slice arg V.N crg, .slice alg V.N clg, .slice aqg V.N cqg, .slice apg V.N cpg] 33)).heap.size) := by show w6.heap.size < (w6.alloc (.cells #[.slice abg V.bn cbg, .slice arg V.N crg, .slice alg V.N clg, .slice aqg V.N cqg, .slice apg V.N cpg] 33)).heap.size; simp
  replace A := blk_below A hb
  replace HB := after HB hb
  replace X4 := blk_below X4 hb
  replace B3 := after B3 hb
  replace IN := IN.below hb
  replace X6 := blk_below X6 hb
  replace vG := vG.below hb
  clear hb
  have hne : (ok != ok) = false := by simp
  have x0 := blk_cell X7 0 _ rfl
  have x1 := blk_cell X7 1 _ rfl
  have x2 := blk_cell X7 2 _ rfl
  have x3 := blk_cell X7 3 _ rfl
  have x4 := blk_cell X7 4 _ rfl
  have y0 := blk_cell X4 0 _ rfl
  have y1 := blk_cell X4 1 _ rfl
  have y2 := blk_cell X4 2 _ rfl
  have y3 := blk_cell X4 3 _ rfl
  have y4 := blk_cell X4 4 _ rfl
  go_wp2_with fail
  generalize w6.alloc (.cells #[.slice abg V.bn cbg, .slice arg V.N crg, .slice alg V.N clg, .slice aqg V.N cqg, .slice apg V.N cpg] 33) = w7 at A HB X4 B3 X6 IN vG X7 HS7 x0 x1 x2 x3 x4 y0 y1 y2 y3 y4 ⊢
  refine (eqView_same abg arg alg aqg apg ab ar al aq ap cbg crg clg cqg cpg cb cr cl cq cp V _ HVS.out (ownView_at vG) (HVS3.out.below B3)).mono ?_
  rintro e w8 ⟨rfl, hb⟩
  clear x0 x1 x2 x3 x4 y0 y1 y2 y3 y4
  replace A := blk_below A hb
  replace HB := after HB hb
  replace X4 := blk_below X4 hb
  replace B3 := after B3 hb
  replace IN := IN.below hb
  replace X6 := blk_below X6 hb
  replace vG := vG.below hb
  replace X7 := blk_below X7 hb
  clear hb
  go_upto_region 10 with fail
  have KS : Hid (∀ w', Below w8.heap.size w8 w' → ((w'.cell? ⟨w.heap.size, 0, none⟩ = some (.slice asa x.san csa) ∧ w'.cell? ⟨w.heap.size, 1, none⟩ = some (.slice ald x.ldn cld) ∧ w'.cell? ⟨w.heap.size, 2, none⟩ = some (.slice abk x.bkn cbk)) ∧ (w'.cell? ⟨w4.heap.size, 0, none⟩ = some (.slice (some ⟨gsa, 0, none⟩) x.san x.san) ∧ w'.cell? ⟨w4.heap.size, 1, none⟩ = some (.slice (some ⟨gld, 0, none⟩) x.ldn x.ldn) ∧ w'.cell? ⟨w4.heap.size, 2, none⟩ = some (.slice (some ⟨gbk, 0, none⟩) x.bkn x.bkn)))) := fun w' h => by
    have g1 := blk_below A h
    have g2 := blk_below X6 h
    exact ⟨⟨blk_cell g1 0 _ rfl, blk_cell g1 1 _ rfl, blk_cell g1 2 _ rfl⟩, ⟨blk_cell g2 0 _ rfl, blk_cell g2 1 _ rfl, blk_cell g2 2 _ rfl⟩⟩
  have BW : Hid (∀ w', Below w8.heap.size w8 w' → Below w.heap.size w w') := fun w' h => after HB h
  have HIN : Hid (∀ w', Below w8.heap.size w8 w' → Off.Is w' [.slice (some ⟨gsa, 0, none⟩) x.san x.san, .slice (some ⟨gld, 0, none⟩) x.ldn x.ldn, .slice (some ⟨gbk, 0, none⟩) x.bkn x.bkn] x) := fun w' h => (IN.is HT.out).below h
  go_region_held3 (fun w' => (w'.cell? ⟨w.heap.size, 0, none⟩ = some (.slice asa x.san csa) ∧ w'.cell? ⟨w.heap.size, 1, none⟩ = some (.slice ald x.ldn cld) ∧ w'.cell? ⟨w.heap.size, 2, none⟩ = some (.slice abk x.bkn cbk)) ∧ (w'.cell? ⟨w4.heap.size, 0, none⟩ = some (.slice (some ⟨gsa, 0, none⟩) x.san x.san) ∧ w'.cell? ⟨w4.heap.size, 1, none⟩ = some (.slice (some ⟨gld, 0, none⟩) x.ldn x.ldn) ∧ w'.cell? ⟨w4.heap.size, 2, none⟩ = some (.slice (some ⟨gbk, 0, none⟩) x.bkn x.bkn)))
    ((refine KS.out _ ?_; exact (by repeat (first | exact Below.refl _ _ | refine Below.drew ?_ | refine after ?_ hb9 | refine after ?_ hb8))))
    (first | (go_at_call 6; refine Calls.mono (toOffice_any [.slice asa x.san csa, .slice ald x.ldn cld, .slice abk x.bkn cbk] x _ HT.out (HI.out.below (BW.out _ (by repeat (first | exact Below.refl _ _ | refine Below.drew ?_ | refine after ?_ hb9 | refine after ?_ hb8))))) ?_; rintro e wt ⟨cs8, rfl, hin8, hb8⟩) | (go_at_call 9; refine Calls.mono (eqOffice_same [.slice (some ⟨gsa, 0, none⟩) x.san x.san, .slice (some ⟨gld, 0, none⟩) x.ldn x.ldn, .slice (some ⟨gbk, 0, none⟩) x.bkn x.bkn] cs8 x _ HT.out (HIN.out _ (by repeat (first | exact Below.refl _ _ | refine Below.drew ?_ | refine after ?_ hb9 | refine after ?_ hb8))) ((hin8.is HT.out).below (by repeat (first | exact Below.refl _ _ | refine Below.drew ?_ | refine after ?_ hb9 | refine after ?_ hb8)))) ?_; rintro e w9 ⟨rfl, hb9⟩))
  have hb : Below w8.heap.size w8 w9 := (by repeat (first | exact Below.refl _ _ | refine Below.drew ?_ | refine after ?_ hb9 | refine after ?_ hb8))
  clear hin8 hb8 hb9 KS BW HIN
  replace A := blk_below A hb
  replace HB := after HB hb
  replace X4 := blk_below X4 hb
  replace B3 := after B3 hb
  replace IN := IN.below hb
  replace X6 := blk_below X6 hb
  replace vG := vG.below hb
  replace X7 := blk_below X7 hb
  clear hb
  have x0 := blk_cell X6 0 _ rfl
  have x1 := blk_cell X6 1 _ rfl
  have x2 := blk_cell X6 2 _ rfl
  go_wp2_with fail
  refine (markOffice_own [.slice (some ⟨gsa, 0, none⟩) x.san x.san, .slice (some ⟨gld, 0, none⟩) x.ldn x.ldn, .slice (some ⟨gbk, 0, none⟩) x.bkn x.bkn] x wB.heap.size w4.heap.size w9 HT.out IN (by have := blk_lt X6; omega)).mono ?_
  rintro e w10 ⟨⟨k, rfl⟩, kp⟩
  clear x0 x1 x2
  have HS9 : Hid (w.heap.size < wB.heap.size) := by have := HS1.out; have := HS2.out; have := HS3.out; have := HSB.out; show w.heap.size < wB.heap.size; omega
  have HX4 : Hid (w3.heap.size < wB.heap.size) := HSB.out
  have HX7 : Hid (w4.heap.size < w6.heap.size) := by have := HS5.out; have h2 := HB65.out; show w4.heap.size < w6.heap.size; omega
  have HKX : Hid (∀ b, (wB.heap.size ≤ b ∧ b < w4.heap.size) → wB.heap.size ≤ b ∧ b < w4.heap.size) := fun b h => h
  replace A := kp.blk A (fun e => by have := HKX.out _ e; have := HS9.out; omega)
  replace HB := Kept.below HB HB.size kp (fun b e => by have := HKX.out _ e; have := HS9.out; omega)
  replace X4 := kp.blk X4 (fun e => by have := HKX.out _ e; have := HX4.out; omega)
  replace X7 := kp.blk X7 (fun e => by have := HKX.out _ e; have := HX7.out; omega)
  replace B3 := Kept.below B3 B3.size kp (fun b e => (HKX.out _ e).1)
  replace vG := vG.kept kp (fun b e h1 _ => by have := HKX.out _ e; have := HBS.out; have := HS5.out; omega)
  clear kp IN X6
  have dk : decide ((k : Int) < 0) = false := by simp
  have x0 := blk_cell X7 0 _ rfl
  have x1 := blk_cell X7 1 _ rfl
  have x2 := blk_cell X7 2 _ rfl
  have x3 := blk_cell X7 3 _ rfl
  have x4 := blk_cell X7 4 _ rfl
  have y0 := blk_cell X4 0 _ rfl
  have y1 := blk_cell X4 1 _ rfl
  have y2 := blk_cell X4 2 _ rfl
  have y3 := blk_cell X4 3 _ rfl
  have y4 := blk_cell X4 4 _ rfl
  go_wp2_with fail
  refine (eqView_same abg arg alg aqg apg ab ar al aq ap cbg crg clg cqg cpg cb cr cl cq cp V _ HVS.out (ownView_at vG) (HVS3.out.below B3)).mono ?_
  rintro e w11 ⟨rfl, hb⟩
  clear x0 x1 x2 x3 x4 y0 y1 y2 y3 y4
  replace A := blk_below A hb
  replace HB := after HB hb
  replace X4 := blk_below X4 hb
  replace B3 := after B3 hb
  replace X7 := blk_below X7 hb
  replace vG := vG.below hb
  clear hb
  have x0 := blk_cell X7 0 _ rfl
  have x1 := blk_cell X7 1 _ rfl
  have x2 := blk_cell X7 2 _ rfl
  have x3 := blk_cell X7 3 _ rfl
  have x4 := blk_cell X7 4 _ rfl
  go_wp2_with fail
  have HMK : Hid (∀ u, OwnView u base lim V (.slice abg V.bn cbg) (.slice arg V.N crg) (.slice alg V.N clg) (.slice aqg V.N cqg) (.slice apg V.N cpg) E R L Q → Calls Tryz.prog 11 #[.agg #[.slice abg V.bn cbg, .slice arg V.N crg, .slice alg V.N clg, .slice aqg V.N cqg, .slice apg V.N cpg], .int .i64 1] u fun e w' => e = .returned (.int .i64 ((kV V 1 : Nat) : Int)) ∧ OwnView w' base lim (mV V 1) (.slice abg V.bn cbg) (.slice arg V.N crg) (.slice alg V.N clg) (.slice aqg V.N cqg) (.slice apg V.N cpg) E R L Q ∧ Kept u w' (VwB V (.slice abg V.bn cbg) (.slice apg V.N cpg) E R L Q)) := fun u h => markView_own abg arg alg aqg apg cbg crg clg cqg cpg base lim 1 V E R L Q u HVS.out (by decide) h
  have HVB : Hid (∀ b, VwB V (.slice abg V.bn cbg) (.slice apg V.N cpg) E R L Q b → base ≤ b ∧ b < w11.heap.size ∧ b ≠ w6.heap.size) := fun b e => ⟨(vG.blk b e).1, (vG.blk b e).2, fun q => vwB_not vG X7 b e q⟩
  refine (HMK.out _ vG).mono ?_
  rintro e w12 ⟨rfl, vM, kp⟩
  clear x0 x1 x2 x3 x4
  replace A := kp.blk A (fun e => by have := HVB.out _ e; have := HS9.out; have := HS4.out; have := HS5.out; have := HBS.out; omega)
  replace HB := Kept.below HB HB.size kp (fun b e => by have := HVB.out _ e; have := HS9.out; have := HS4.out; have := HS5.out; have := HBS.out; omega)
  replace X4 := kp.blk X4 (fun e => by have := HVB.out _ e; have := HX4.out; have := HS4.out; have := HS5.out; have := HBS.out; omega)
  replace X7 := kp.blk X7 (fun e => (HVB.out _ e).2.2 rfl)
  replace B3 := Kept.below B3 B3.size kp (fun b e => by have := HVB.out _ e; have := HS4.out; have := HS5.out; have := HBS.out; omega)
  clear kp vG HMK HVB
  have vM := ownView_at' vM
  have HHE : Hid (∀ u, ViewAt u abg arg alg aqg apg (mV V 1) → Calls Tryz.prog 12 #[.agg #[.slice abg V.bn cbg, .slice arg V.N crg, .slice alg V.N clg, .slice aqg V.N cqg, .slice apg V.N cpg], .int .i64 1] u fun e w' => e = .returned (.int .i64 ((kV V 1 : Nat) : Int)) ∧ Below u.heap.size u w') := fun u h => heldView_yes abg arg alg aqg apg cbg crg clg cqg cpg 1 V u HVS.out (by decide) h
  have dm : decide (((kV V 1 : Nat) : Int) < 0) = false := by simp
  have x0 := blk_cell X7 0 _ rfl
  have x1 := blk_cell X7 1 _ rfl
  have x2 := blk_cell X7 2 _ rfl
  have x3 := blk_cell X7 3 _ rfl
  have x4 := blk_cell X7 4 _ rfl
  go_wp2_with fail
  refine (HHE.out _ vM).mono ?_
  rintro e w13 ⟨rfl, hb⟩
  clear x0 x1 x2 x3 x4
  replace A := blk_below A hb
  replace HB := after HB hb
  replace X4 := blk_below X4 hb
  replace B3 := after B3 hb
  replace X7 := blk_below X7 hb
  replace vM := vM.below hb
  clear hb
  have q0 := blk_cell A 0 _ rfl
  have q1 := blk_cell A 1 _ rfl
  have q2 := blk_cell A 2 _ rfl
  go_wp2_with fail
  refine (toOffice_any [.slice asa x.san csa, .slice ald x.ldn cld, .slice abk x.bkn cbk] x _ HT.out (HI.out.below HB)).mono ?_
  rintro e w14 ⟨cs14, rfl, hin, hb⟩
  clear q0 q1 q2
  replace A := blk_below A hb
  replace HB := after HB hb
  replace X4 := blk_below X4 hb
  replace B3 := after B3 hb
  replace X7 := blk_below X7 hb
  replace vM := vM.below hb
  clear hb
  have is14 := hin.is HT.out
  clear hin
  go_wp2_with fail
  refine (HIM.out cs14 _ is14).mono ?_
  rintro e w15 ⟨⟨abk, cbk, ark, crk, alk, clk, aqk, cqk, apk, cpk, E2, R2, L2, Q2, base2, lim2, _, rfl, vK⟩, hb⟩
  clear is14
  replace A := blk_below A hb
  replace HB := after HB hb
  replace X4 := blk_below X4 hb
  replace B3 := after B3 hb
  replace X7 := blk_below X7 hb
  replace vM := vM.below hb
  clear hb
  have hb : Below w15.heap.size w15 (w15.alloc (.cells #[.slice abk V.bn cbk, .slice ark V.N crk, .slice alk V.N clk, .slice aqk V.N cqk, .slice apk V.N cpk] 33)) := push (Below.refl _ _) _
  have X12 := heap_alloc_new w15 (.cells #[.slice abk V.bn cbk, .slice ark V.N crk, .slice alk V.N clk, .slice aqk V.N cqk, .slice apk V.N cpk] 33)
  have HS16 : Hid (w15.heap.size < (w15.alloc (.cells #[.slice abk V.bn cbk, .slice ark V.N crk, .slice alk V.N clk, .slice aqk V.N cqk, .slice apk V.N cpk] 33)).heap.size) := by show w15.heap.size < (w15.alloc (.cells #[.slice abk V.bn cbk, .slice ark V.N crk, .slice alk V.N clk, .slice aqk V.N cqk, .slice apk V.N cpk] 33)).heap.size; simp
  replace A := blk_below A hb
  replace HB := after HB hb
  replace X4 := blk_below X4 hb
  replace B3 := after B3 hb
  replace X7 := blk_below X7 hb
  replace vM := vM.below hb
  replace vK := vK.below hb
  clear hb
  have x0 := blk_cell X12 0 _ rfl
  have x1 := blk_cell X12 1 _ rfl
  have x2 := blk_cell X12 2 _ rfl
  have x3 := blk_cell X12 3 _ rfl
  have x4 := blk_cell X12 4 _ rfl
  have y0 := blk_cell X4 0 _ rfl
  have y1 := blk_cell X4 1 _ rfl
  have y2 := blk_cell X4 2 _ rfl
  have y3 := blk_cell X4 3 _ rfl
  have y4 := blk_cell X4 4 _ rfl
  go_wp2_with fail
  generalize w15.alloc (.cells #[.slice abk V.bn cbk, .slice ark V.N crk, .slice alk V.N clk, .slice aqk V.N cqk, .slice apk V.N cpk] 33) = w16 at A HB X4 B3 X7 vM vK X12 HS16 x0 x1 x2 x3 x4 y0 y1 y2 y3 y4 ⊢
  refine (eqView_same abk ark alk aqk apk ab ar al aq ap cbk crk clk cqk cpk cb cr cl cq cp V _ HVS.out (ownView_at vK) (HVS3.out.below B3)).mono ?_
  rintro e w17 ⟨rfl, hb⟩
  clear x0 x1 x2 x3 x4 y0 y1 y2 y3 y4
  replace A := blk_below A hb
  replace HB := after HB hb
  replace X4 := blk_below X4 hb
  replace B3 := after B3 hb
  replace X7 := blk_below X7 hb
  replace vM := vM.below hb
  replace vK := vK.below hb
  clear hb
  have x0 := blk_cell X7 0 _ rfl
  have x1 := blk_cell X7 1 _ rfl
  have x2 := blk_cell X7 2 _ rfl
  have x3 := blk_cell X7 3 _ rfl
  have x4 := blk_cell X7 4 _ rfl
  go_wp2_with fail
  refine (HHE.out _ vM).mono ?_
  rintro e w18 ⟨rfl, hb⟩
  clear x0 x1 x2 x3 x4
  replace A := blk_below A hb
  replace HB := after HB hb
  replace X4 := blk_below X4 hb
  replace B3 := after B3 hb
  replace X7 := blk_below X7 hb
  replace vM := vM.below hb
  clear hb
  go_wp2
  go_ret
  exact ⟨rfl, HB⟩
end Go.Proofs.YtlelckbeoclhbaaGreat

namespace Go.Proofs.YtlelckbeoclhbaaGreat
open Go.ChangeShapes Go.WideShapes Go.ChangeAt Go.RowKit Go.Deep Go.Joins
theorem viewOf_lifted (os : Os) (started : os.Started) (H : Type) (enc : TypeId × Value → H) :
    ReturnsInHanded {} Tryz.checked os 3 .any (Rows.fnExactViewOfSpec.pre6 enc Tryz.prog Tryz.f3 Rows.fnExactViewOfRow.domain false) (Rows.fnExactViewOfSpec.post enc Tryz.prog Tryz.f3 false true false false) := by
  refine returnsInHanded_of_change_sized (C := Tryz.checked) Tryz.own started (by kernel_rfl) Tryz.func3
    (ChangeSpec.witness6 (enc := enc) (C := Tryz.checked) false ⟨#[], #[.agg #[.slice none 0 0, .slice none 0 0, .slice none 0 0]], []⟩ 8 (by kernel_rfl) (by kernel_rfl) (by kernel_rfl) (by kernel_rfl)) ?_
  intro W base args ds gs before hval0 hW _ hsz0 _
  have hsz : (DataW.weightsEach Tryz.prog (Tryz.f3.params.toList ++ Rows.fnExactViewOfSpec.plain.varTypes Tryz.prog) (ds ++ gs)).all (· ≤ reachBytes) = true := hsz0
  clear hsz0
  have hval : ∀ (j : Nat) t v, Tryz.f3.params[j]? = some t → args[j]? = some v → Value.okWide Tryz.prog W .any base t v := hval0
  have hW' := hW
  obtain ⟨p, q, hA0, hV, rfl, hfz, hnd⟩ := hW
  have hA : DataW.TrodAll enc Tryz.prog W 0 (fun _ => true) true Tryz.f3.params.toList args.toList ds p := hA0
  rw [Tryz.params3] at hA hval hsz
  obtain ⟨v0, vs0, d0, ds0, p0, q0, hargs, rfl, rfl, h0, r0⟩ := trodAll_cons hA
  obtain ⟨rfl, rfl, rfl⟩ := trodAll_nil r0
  obtain rfl : args = #[v0] := by cases args; simp_all
  obtain ⟨rfl, rfl⟩ := trodVars_none hV
  have k0 := h0
  have lt0 : ∀ x ∈ p0, x.block < W.heap.size := by obtain ⟨m, hm⟩ := k0; exact DataW.trod_lt m _ _ _ hm
  have hw0 : ∀ x ∈ DataW.weights Tryz.prog 26 d0, x ≤ reachBytes := by
    intro x hx
    have := List.all_eq_true.1 hsz x (by simp [DataW.weightsEach, hx])
    simpa using this
  obtain ⟨cs0, y0, rfl, hi0, hs0⟩ := open_office (hval 0 26 v0 rfl rfl) h0 hw0
  clear hA0 hval0
  refine (lawViewOf cs0 y0 W hs0 hi0).mono fun e W' ⟨he, bel⟩ => ?_
  subst he
  exact ⟨_, rfl, _, _, _, [], _, [], hW', trodAll_mk1 (shut_bool Tryz.underlying4 _), (trodAll_cons_mk (Below.trod Tryz.laidOut (by kernel_rfl) (of_decide_eq_true (by kernel_rfl)) k0 bel lt0) trodAll_mk0), rfl, bel.frame _, fun h => by cases h⟩
theorem viewOf_holds : Rows.FnExactViewOfSaid :=
  OpenClaim.holds_of_wide 3 Tryz.f3 rfl rfl rfl rfl rfl rfl rfl ⟨rfl, rfl, rfl, rfl, rfl⟩ rfl rfl rfl rfl rfl (by kernel_rfl) Tryz.func3 (by kernel_rfl)
    (of_decide_eq_true (by kernel_rfl)) (by unfold Func.isWrapper; first | (rw [if_pos (by decide +kernel)]; kernel_rfl) | (rw [if_neg (by decide +kernel)]; exact ⟨rfl, rfl⟩))
    (fun os started H enc _ => viewOf_lifted os started H enc)
#print axioms viewOf_holds
end Go.Proofs.YtlelckbeoclhbaaGreat
