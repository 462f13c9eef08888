/-
  OWN TEXT: SeenI, KitOwn, KitLds, KitOwO.
-/
import Derived.Maps.OwnIn
import Derived.Test.YtlelckbeoclhbaaGreatB28
import Derived.Test.YtlelckbeoclhbaaGreatB29
import Derived.Test.YtlelckbeoclhbaaGreatB09
import Derived.Test.YtlelckbeoclhbaaGreatB00
import Derived.Test.YtlelckbeoclhbaaGreatB10
import Derived.Test.YtlelckbeoclhbaaGreatB02
set_option maxHeartbeats 12800000
set_option maxRecDepth 100000
namespace Go.Proofs.YtlelckbeoclhbaaGreat
open Go.RowKit Go.Shelf Classical
theorem Tryz.infoSIi : (Tryz.prog.info? 31).map (fun i => (i.zero, i.size, i.bytes)) = some (some (.slice none 0 0), 1, 24) := by kernel_rfl
theorem Tryz.infoSRi : (Tryz.prog.info? 55).map (fun i => (i.zero, i.size, i.bytes)) = some (some (.slice none 0 0), 1, 24) := by kernel_rfl
theorem FitS.below {x : Off} {k s0 : Nat} {v : SightV} {W W' : World} (h : FitS x k v s0 W) (hb : Below W.heap.size W W') : FitS x k v s0 W' := ⟨h.lt, own_below hb h.row, own_below hb h.lan, own_below hb h.ber, h.far, h.peo⟩
theorem row_carry {u y : World} {lim e sz n s0 e' sz' n' b : Nat} {v v' : Value} {xs xs' : List Value} {cs : Array Value} (ho : u.ownsRow lim e sz v n xs) (hg : u.grownBy y v.ownBlock) (hx : u.ownsRow s0 e' sz' v' n' xs') (hne : e ≠ e') (hb : y.heap[b]? = some (.cells cs 33 (0, 0))) (h2 : e' ≠ 33) (i : Nat) (z : Value) : (y.setCell ⟨b, i, none⟩ z).ownsRow s0 e' sz' v' n' xs' := by
  have h3 : y.ownsRow s0 e' sz' v' n' xs' := (kept_row hg).own hx (fun g q1 q2 => own_apart ho hx hne g q2 q1)
  have hk : Kept y (y.setCell ⟨b, i, none⟩ z) (fun g => g = b) := (Kept.refl y (fun g => g = b)).set (a := ⟨b, i, none⟩) rfl _
  exact hk.own h3 (fun g q1 q2 => own_notE h3 hb h2 g q1 q2)
def AxW (W0 : World) (base ob : Nat) (oc : Array Value) (x : Off) (vb : Value) (E : Nat → Value) (pre : List SightV) (v : SightV) (sb : Nat) (W : World) : Prop :=
  SeeI2 W0 base ob oc x vb E pre v W ∧ W.heap[sb]? = some (.cells #[v.1, v.2.1, v.2.2.1, .int .i64 v.2.2.2] 78 (0, 0)) ∧ W0.heap.size < sb
def AxA (W0 : World) (base ob : Nat) (oc : Array Value) (x : Off) (vb : Value) (E : Nat → Value) (pre : List SightV) (v : SightV) (a : Act) (W : World) : Prop :=
  ∃ (sb : Nat) (y0 y1 y2 y3 y6 y7 y8 y9 y10 y11 y12 y13 y14 y15 y16 y17 y18 y19 y20 y21 y22 y23 y24 y25 y26 y27 y28 y29 y30 y31 y32 y33 y34 y35 y36 y37 y38 y39 y40 y41 y42 y43 y44 y45 : Value), a = ⟨#[y0, y1, y2, y3, .pointer (some ⟨W0.heap.size, 0, none⟩), .pointer (some ⟨sb, 0, none⟩), y6, y7, y8, y9, y10, y11, y12, y13, y14, y15, y16, y17, y18, y19, y20, y21, y22, y23, y24, y25, y26, y27, y28, y29, y30, y31, y32, y33, y34, y35, y36, y37, y38, y39, y40, y41, y42, y43, y44, y45], []⟩ ∧ AxW W0 base ob oc x vb E pre v sb W
theorem FitS.own {x : Off} {k s0 : Nat} {v : SightV} {W W' : World} {row : Option Nat} (h : FitS x k v s0 W) (hg : W.grownBy W' row) (hr : ∀ r, row = some r → ∃ o : Obj, W.heap[r]? = some o ∧ o.isCells = false) : FitS x k v s0 W' := by
  have hk := kept_row hg
  have far : ∀ {be e sz n : Nat} {v : Value} {xs : List Value}, W.ownsRow be e sz v n xs → ∀ b, v.ownBlock = some b → ¬ row = some b := fun ho b q1 q2 => by
    obtain ⟨o, h1, h2⟩ := hr b q2
    rw [own_cellsB ho q1 h1] at h2; cases h2
  exact ⟨h.lt, hk.own h.row (far h.row), hk.own h.lan (far h.lan), hk.own h.ber (far h.ber), h.far, h.peo⟩
theorem AxA.ownFrom {W0 : World} {base ob : Nat} {oc : Array Value} {x : Off} {vb : Value} {E : Nat → Value} {B : Nat} (hB : W0.heap.size ≤ B) (v : SightV) (a : Act) : OwnFrom B (fun pre W => AxA W0 base ob oc x vb E pre v a W) := by
  rintro xs A C row ⟨sb, y0, y1, y2, y3, y6, y7, y8, y9, y10, y11, y12, y13, y14, y15, y16, y17, y18, y19, y20, y21, y22, y23, y24, y25, y26, y27, y28, y29, y30, y31, y32, y33, y34, y35, y36, y37, y38, y39, y40, y41, y42, y43, y44, y45, ea, ⟨ar, al, aq, ap, cr, cl, cq, cp, R, L, Q, s0, h, hf, r1, r2, r3, r4, r5⟩, h1, h2⟩ hg hr
  refine ⟨sb, y0, y1, y2, y3, y6, y7, y8, y9, y10, y11, y12, y13, y14, y15, y16, y17, y18, y19, y20, y21, y22, y23, y24, y25, y26, y27, y28, y29, y30, y31, y32, y33, y34, y35, y36, y37, y38, y39, y40, y41, y42, y43, y44, y45, ea, ⟨ar, al, aq, ap, cr, cl, cq, cp, R, L, Q, s0, h.own hg (fun r e => ⟨Nat.le_trans hB (hr r e).1, (hr r e).2⟩), hf.own hg (fun r e => (hr r e).2), r1, r2, r3, r4, r5⟩, (kept_row hg).blk h1 (fun e => ?_), h2⟩
  obtain ⟨_, o, q1, q2⟩ := hr _ e
  rw [h1] at q1; cases q1; cases q2
attribute [local go_sem] Oper.semAt_some
theorem implView_raw (x : Off) (asa ald abk : Option Addr) (csa cld cbk : Nat) (w : World) (hs : Off.Short x 1048576) (hsa : SailsAt w asa x.san x.sa) (hld : LoadsAt w ald x.ldn x.ld) (hbk : BooksAt w abk x.bkn x.bk) (hcb : x.bkn ≤ cbk) :
    Calls Tryz.prog 7 #[.agg #[.slice asa x.san csa, .slice ald x.ldn cld, .slice abk x.bkn cbk]] w fun e w' => (∃ vb vr vl vq vp E R L Q base lim, w.heap.size ≤ base ∧ e = .returned (.tuple #[.agg #[vb, vr, vl, vq, vp], .bool (decide (OffOk x))]) ∧ OwnView w' base lim (viewA x) vb vr vl vq vp E R L Q) ∧ Below w.heap.size w w' := by
  obtain ⟨i0, ii, iz0, iz1, iz2⟩ := info_parts Tryz.infoSIi
  obtain ⟨r0, ri, rz0, rz1, rz2⟩ := info_parts Tryz.infoSRi
  obtain ⟨p0, pi, pz0, pz1, pz2⟩ := info_parts Tryz.infoInt
  have HSH : Hid (Off.Short x 1048576) := hs
  have HSA : Hid (SailsAt w asa x.san x.sa) := hsa
  have HLD : Hid (LoadsAt w ald x.ldn x.ld) := hld
  have HBK : Hid (BooksAt w abk x.bkn x.bk) := hbk
  have hb0 : Below w.heap.size w ((w.alloc (.cells #[.slice asa x.san csa, .slice ald x.ldn cld, .slice abk x.bkn cbk] 39)).alloc (.cells #[.slice none 0 0, .slice none 0 0, .slice none 0 0, .slice none 0 0, .slice none 0 0] 33)) := push (push (Below.refl _ _) _) _
  have bO : ((w.alloc (.cells #[.slice asa x.san csa, .slice ald x.ldn cld, .slice abk x.bkn cbk] 39)).alloc (.cells #[.slice none 0 0, .slice none 0 0, .slice none 0 0, .slice none 0 0, .slice none 0 0] 33)).heap[w.heap.size]? = some (.cells #[.slice asa x.san csa, .slice ald x.ldn cld, .slice abk x.bkn cbk] 39 (0, 0)) := blk_alloc (heap_alloc_new w _) _
  have bR : ((w.alloc (.cells #[.slice asa x.san csa, .slice ald x.ldn cld, .slice abk x.bkn cbk] 39)).alloc (.cells #[.slice none 0 0, .slice none 0 0, .slice none 0 0, .slice none 0 0, .slice none 0 0] 33)).heap[w.heap.size + 1]? = some (.cells #[.slice none 0 0, .slice none 0 0, .slice none 0 0, .slice none 0 0, .slice none 0 0] 33 (0, 0)) := by
    have h := heap_alloc_new (w.alloc (.cells #[.slice asa x.san csa, .slice ald x.ldn cld, .slice abk x.bkn cbk] 39)) (.cells #[.slice none 0 0, .slice none 0 0, .slice none 0 0, .slice none 0 0, .slice none 0 0] 33)
    rw [show (w.alloc (.cells #[.slice asa x.san csa, .slice ald x.ldn cld, .slice abk x.bkn cbk] 39)).heap.size = w.heap.size + 1 by simp] at h
    exact h
  clear hs hsa hld hbk
  refine (callsIn_wide (n := 9)).1 ?_
  refine callsIn_of_wp_marks Tryz.func7 rfl trivial ?_ rfl
  simp only [Tryz.ntmps7, List.size_toArray, List.length_cons, List.length_nil, Nat.reduceAdd, Nat.reduceSub, Array.replicate_succ, Array.replicate_zero, List.push_toArray, List.append_toArray, List.nil_append, List.cons_append]
  refine wpIn_wide.2 ?_
  go_upto_region 1 with fail
  generalize (w.alloc (.cells #[.slice asa x.san csa, .slice ald x.ldn cld, .slice abk x.bkn cbk] 39)).alloc (.cells #[.slice none 0 0, .slice none 0 0, .slice none 0 0, .slice none 0 0, .slice none 0 0] 33) = U0 at hb0 bO bR ⊢
  have o0 := blk_cell bO 0 _ rfl
  have o1 := blk_cell bO 1 _ rfl
  have o2 := blk_cell bO 2 _ rfl
  go_wp2_with fail
  refine (implOff_raw x asa ald abk csa cld cbk U0 HSH.out (HSA.out.below hb0) (HLD.out.below hb0) (HBK.out.below hb0) hcb).mono ?_
  rintro e U1 ⟨hok, hb1⟩
  replace bO := blk_below bO hb1
  replace bR := blk_below bR hb1
  have hbw1 := after hb0 hb1
  clear o0 o1 o2 hb1
  have hRb0 : w.heap.size + 1 < U1.heap.size := blk_lt bR
  obtain rfl := says_decide hok
  clear hok
  by_cases hof : OffOk x
  case neg =>
    have HV : Hid (viewA x = noView) := viewA_no hof
    have ed : decide (OffOk x) = false := decide_eq_false hof
    rw [ed]
    have z0 := blk_cell bR 0 _ rfl
    have z1 := blk_cell bR 1 _ rfl
    have z2 := blk_cell bR 2 _ rfl
    have z3 := blk_cell bR 3 _ rfl
    have z4 := blk_cell bR 4 _ rfl
    have f0 := blk_free bR 0
    have f1 := blk_free bR 1
    have f2 := blk_free bR 2
    have f3 := blk_free bR 3
    have f4 := blk_free bR 4
    have rF := blk_set (blk_set (blk_set (blk_set (blk_set bR 0 (.slice none 0 0)) 1 (.slice none 0 0)) 2 (.slice none 0 0)) 3 (.slice none 0 0)) 4 (.slice none 0 0)
    have hbF : Below w.heap.size w (((((U1.setCell ⟨w.heap.size + 1, 0, none⟩ (.slice none 0 0)).setCell ⟨w.heap.size + 1, 1, none⟩ (.slice none 0 0)).setCell ⟨w.heap.size + 1, 2, none⟩ (.slice none 0 0)).setCell ⟨w.heap.size + 1, 3, none⟩ (.slice none 0 0)).setCell ⟨w.heap.size + 1, 4, none⟩ (.slice none 0 0)) := setV (setV (setV (setV (setV hbw1 (by omega) _) (by omega) _) (by omega) _) (by omega) _) (by omega) _
    go_wp2
    generalize ((((U1.setCell ⟨w.heap.size + 1, 0, none⟩ (.slice none 0 0)).setCell ⟨w.heap.size + 1, 1, none⟩ (.slice none 0 0)).setCell ⟨w.heap.size + 1, 2, none⟩ (.slice none 0 0)).setCell ⟨w.heap.size + 1, 3, none⟩ (.slice none 0 0)).setCell ⟨w.heap.size + 1, 4, none⟩ (.slice none 0 0) = UF at rF hbF ⊢
    clear z0 z1 z2 z3 z4 f0 f1 f2 f3 f4
    have z0 := blk_cell rF 0 _ rfl
    have z1 := blk_cell rF 1 _ rfl
    have z2 := blk_cell rF 2 _ rfl
    have z3 := blk_cell rF 3 _ rfl
    have z4 := blk_cell rF 4 _ rfl
    refine ⟨.tuple #[.agg #[.slice none 0 0, .slice none 0 0, .slice none 0 0, .slice none 0 0, .slice none 0 0], .bool false], by simp [results, Tryz.results7, go_sem, z0, z1, z2, z3, z4], ?_, hbF⟩
    rw [HV.out, ed]
    exact ⟨_, _, _, _, _, (fun _ => .slice none 0 0), (fun _ => .slice none 0 0), (fun _ => .slice none 0 0), (fun _ => .slice none 0 0), w.heap.size, w.heap.size, Nat.le_refl _, rfl, OwnBks.nil _ _ _ _, (by rintro b (q | ⟨i, hi, q⟩); (simp [Value.ownBlock] at q); exact absurd hi (Nat.not_lt_zero _)), OwnSS.nil _ _ _ _ _ _ _ _, OwnSS.nil _ _ _ _ _ _ _ _, OwnSS.nil _ _ _ _ _ _ _ _, ⟨rfl, .inl ⟨rfl, rfl⟩⟩, fun i j hi => absurd hi (Nat.not_lt_zero _), fun i hi => absurd hi (Nat.not_lt_zero _), fun i hi => absurd hi (Nat.not_lt_zero _), (fun b q => by simp [Value.ownBlock] at q), Nat.le_refl _⟩
  case pos =>
  have HOK : Hid (OffOk x) := hof
  have ed : decide (OffOk x) = true := decide_eq_true hof
  have hbn : x.bkn ≤ 30 := hof.2.2.1
  have hsn : x.san ≤ 6 := hof.1.1
  rw [ed]
  clear hof
  have HLG : Hid (∀ i, i < x.bkn → 0 < (x.bk i).lgn ∧ (x.bk i).lgn ≤ 1048576) := fun i hi => ⟨(by have := HOK.out.2.2.2.2.1 i hi; have h4 := this.2.2.2.1.1; unfold In at h4; omega), (HSH.out.2.2.2 i hi).2⟩
  have o2 := blk_cell bO 2 _ rfl
  go_wp2_with fail
  refine (copyBooks_any abk x.bkn cbk x.bk U1 (by omega) HLG.out (HBK.out.below hbw1)).mono ?_
  rintro e W0 ⟨⟨gb, E, rfl, hE⟩, hb2⟩
  replace bO := blk_below bO hb2
  replace bR := blk_below bR hb2
  have hbw2 := after hbw1 hb2
  have hle1 : U1.heap.size ≤ W0.heap.size := hb2.size
  have HE : Hid (OwnBks W0 U1.heap.size (.slice (some ⟨gb, 0, none⟩) x.bkn x.bkn) x.bkn x.bk E) := hE
  clear o2 hE hb2
  dsimp only
  have VB := heap_alloc_new W0 (.cells #[.slice (some ⟨gb, 0, none⟩) x.bkn x.bkn, .slice none 0 0, .slice none 0 0, .slice none 0 0, .slice none 0 0] 33)
  have hVb : Below W0.heap.size W0 (W0.alloc (.cells #[.slice (some ⟨gb, 0, none⟩) x.bkn x.bkn, .slice none 0 0, .slice none 0 0, .slice none 0 0, .slice none 0 0] 33)) := push (Below.refl _ _) _
  go_upto_region 4 with fail
  generalize hY0 : W0.alloc (.cells #[.slice (some ⟨gb, 0, none⟩) x.bkn x.bkn, .slice none 0 0, .slice none 0 0, .slice none 0 0, .slice none 0 0] 33) = Y0 at VB hVb ⊢
  have hsY : Y0.heap.size = W0.heap.size + 1 := by rw [← hY0]; simp
  clear hY0
  have bO4 := blk_below bO hVb
  have o0 := blk_cell bO4 0 _ rfl
  have o1 := blk_cell bO4 1 _ rfl
  have o2 := blk_cell bO4 2 _ rfl
  have bOb := heap_alloc_new Y0 (.cells #[.slice asa x.san csa, .slice ald x.ldn cld, .slice abk x.bkn cbk] 39)
  rw [hsY] at bOb
  have VB5 := blk_alloc VB (.cells #[.slice asa x.san csa, .slice ald x.ldn cld, .slice abk x.bkn cbk] 39)
  have hV5 : Below W0.heap.size W0 (Y0.alloc (.cells #[.slice asa x.san csa, .slice ald x.ldn cld, .slice abk x.bkn cbk] 39)) := push hVb _
  go_wp2
  generalize hYR : Y0.alloc (.cells #[.slice asa x.san csa, .slice ald x.ldn cld, .slice abk x.bkn cbk] 39) = YR at bOb VB5 hV5 ⊢
  have hsR : YR.heap.size = W0.heap.size + 1 + 1 := by rw [← hYR]; simp [hsY]
  clear hYR o0 o1 o2 bO4 VB hVb hsY
  have hbw5 := after hbw2 hV5
  have HT0 : Hid (VTo YR U1.heap.size W0.heap.size (viewW x) 0 0 0 0 (.slice (some ⟨gb, 0, none⟩) x.bkn x.bkn) (.slice none 0 0) (.slice none 0 0) (.slice none 0 0) (.slice none 0 0) E (fun _ => .slice none 0 0) (fun _ => .slice none 0 0) (fun _ => .slice none 0 0)) :=
    ⟨HE.out.below hV5, (by rintro b (q | ⟨i, hi, q⟩); exact (HE.out.row.lt b q).2; exact ((HE.out.legs i hi).lt b q).2), OwnSS.nil _ _ _ _ _ _ _ _, OwnSS.nil _ _ _ _ _ _ _ _, OwnSS.nil _ _ _ _ _ _ _ _, ⟨rfl, .inl ⟨rfl, rfl⟩⟩, fun i j hi => absurd hi (Nat.not_lt_zero _), fun i hi => absurd hi (Nat.not_lt_zero _), fun i hi => absurd hi (Nat.not_lt_zero _), fun b q => by simp [Value.ownBlock] at q, hle1⟩
  have hns : w.heap.size ≤ W0.heap.size := hbw2.size
  refine (wpIn_wide (n := 9)).1 ?_
  refine range_fit (F := Fence.wide) rfl (by omega) (gf := 67) (lb := #[.pointer (some ⟨W0.heap.size + 1, 0, none⟩)]) (by rfl) trivial (enters_of Tryz.func67 (by kernel_rfl) rfl)
    (sights_fit 8 x asa ald abk csa cld cbk (W0.heap.size + 1) w YR HOK.out HSH.out HSA.out HLD.out HBK.out hbw5 bOb) (fun h k => ⟨h.1.trans k.1, k.2.trans h.2⟩) (fun W l o o' hl h1 h2 h3 => ⟨?kb, World.putObj_heap_other (by omega)⟩) (Below.refl _ _) (fun _ => rfl)
    (SeeI W0 U1.heap.size (W0.heap.size + 1) #[.slice asa x.san csa, .slice ald x.ldn cld, .slice abk x.bkn cbk] x (.slice (some ⟨gb, 0, none⟩) x.bkn x.bkn) E) (SeeI2 W0 U1.heap.size (W0.heap.size + 1) #[.slice asa x.san csa, .slice ald x.ldn cld, .slice abk x.bkn cbk] x (.slice (some ⟨gb, 0, none⟩) x.bkn x.bkn) E) (AxA W0 U1.heap.size (W0.heap.size + 1) #[.slice asa x.san csa, .slice ald x.ldn cld, .slice abk x.bkn cbk] x (.slice (some ⟨gb, 0, none⟩) x.bkn x.bkn) E)
    (SeeI.ownFrom (by omega)) (fun v a => AxA.ownFrom (by omega) v a) ⟨none, none, none, none, 0, 0, 0, 0, _, _, _, HT0.out, VB5, bOb, hV5⟩ (fun pre v A C h hb _ hf => h.fit hb hf) ?assign ?body ?done
  case kb => exact belowK_b (by omega) W l o o' hl h1 h2 h3
  case assign =>
    rintro l pre ⟨rv, lv, qv, p⟩ W K ⟨ar, al, aq, ap, cr, cl, cq, cp, R, L, Q, s0, h, hf, q1, q2, q3, q4, q5⟩ hK
    have g1 : W.ownsRow s0 116 5 rv ((viewW x).rn pre.length) (rowList ((viewW x).rf pre.length) ((viewW x).rn pre.length)) := hf.row
    have g2 : W.ownsRow s0 3 1 lv ((viewW x).ln pre.length) (intList ((viewW x).lf pre.length) ((viewW x).ln pre.length)) := hf.lan
    have g3 : W.ownsRow s0 3 1 qv ((viewW x).qn pre.length) (intList ((viewW x).qf pre.length) ((viewW x).qn pre.length)) := hf.ber
    obtain ⟨n1, hn1⟩ : ∃ n, n = (viewW x).rn pre.length := ⟨_, rfl⟩
    obtain ⟨n2, hn2⟩ : ∃ n, n = (viewW x).ln pre.length := ⟨_, rfl⟩
    obtain ⟨n3, hn3⟩ : ∃ n, n = (viewW x).qn pre.length := ⟨_, rfl⟩
    rw [← hn1] at g1
    rw [← hn2] at g2
    rw [← hn3] at g3
    obtain ⟨e1, f1, rfl, _⟩ := own_form g1
    obtain ⟨e2, f2, rfl, _⟩ := own_form g2
    obtain ⟨e3, f3, rfl, _⟩ := own_form g3
    have HF : Hid (FitS x pre.length (.slice e1 n1 f1, .slice e2 n2 f2, .slice e3 n3 f3, p) s0 W) := hf
    have HH : Hid (SeeW W0 U1.heap.size (W0.heap.size + 1) #[.slice asa x.san csa, .slice ald x.ldn cld, .slice abk x.bkn cbk] x (.slice (some ⟨gb, 0, none⟩) x.bkn x.bkn) E pre.length ar al aq ap cr cl cq cp R L Q W) := h
    have HQ : Hid (W0.heap.size ≤ s0 ∧ (∀ i, i < pre.length → ∀ b, (R i).ownBlock = some b → b < s0) ∧ (∀ i, i < pre.length → ∀ b, (L i).ownBlock = some b → b < s0) ∧ (∀ i, i < pre.length → ∀ b, (Q i).ownBlock = some b → b < s0) ∧ ∀ b, (Value.slice ap pre.length cp).ownBlock = some b → b < s0) := ⟨q1, q2, q3, q4, q5⟩
    have HK : Hid (∀ a' W', AxA W0 U1.heap.size (W0.heap.size + 1) #[.slice asa x.san csa, .slice ald x.ldn cld, .slice abk x.bkn cbk] x (.slice (some ⟨gb, 0, none⟩) x.bkn x.bkn) E pre (.slice e1 n1 f1, .slice e2 n2 f2, .slice e3 n3 f3, p) a' W' → KeepsOthers W W' → KpS w.heap.size (W0.heap.size + 1) W W' → K a' W') := hK
    clear hf h q1 q2 q3 q4 q5 g1 g2 g3 hn1 hn2 hn3 hK HT0 VB5 bOb hV5
    simp only [encS, List.zip_toArray, List.zip_cons_cons, List.zip_nil_right, List.foldl_toArray, List.foldl_cons, List.foldl_nil, List.setIfInBounds_toArray, List.set_cons_zero, List.set_cons_succ]
    gi_wp2
    have hal : Below W.heap.size W (W.alloc (.cells #[.slice e1 n1 f1, .slice e2 n2 f2, .slice e3 n3 f3, .int .i64 p] 78)) := push (Below.refl _ _) _
    have hwl := blk_lt HH.out.box
    exact HK.out _ _ ⟨W.heap.size, _, _, _, _, _, _, _, _, _, _, _, _, _, _, _, _, _, _, _, _, _, _, _, _, _, _, _, _, _, _, _, _, _, _, _, _, _, _, _, _, _, _, _, _, rfl, ⟨ar, al, aq, ap, cr, cl, cq, cp, R, L, Q, s0, HH.out.below hal, HF.out.below hal, HQ.out⟩, heap_alloc_new W _, hwl⟩ (KeepsOthers.alloc _ _) ⟨(Below.refl _ _).alloc (by omega) _, hal.block _ (blk_lt HH.out.obx)⟩
  case body =>
    rintro l pre ⟨rv, lv, qv, p⟩ a' W ⟨sb, y0, y1, y2, y3, y6, y7, y8, y9, y10, y11, y12, y13, y14, y15, y16, y17, y18, y19, y20, y21, y22, y23, y24, y25, y26, y27, y28, y29, y30, y31, y32, y33, y34, y35, y36, y37, y38, y39, y40, y41, y42, y43, y44, y45, rfl, ⟨ar, al, aq, ap, cr, cl, cq, cp, R, L, Q, s0, h, hf, q1, q2, q3, q4, q5⟩, hsb, hlt⟩
    obtain ⟨k, hk⟩ : ∃ k, k = pre.length := ⟨_, rfl⟩
    have hlen : (pre ++ [(rv, lv, qv, p)]).length = k + 1 := by rw [List.length_append, hk]; rfl
    rw [← hk] at h hf q2 q3 q4 q5
    have hks : k < x.san := hf.lt
    have g1 : W.ownsRow s0 116 5 rv ((viewW x).rn k) (rowList ((viewW x).rf k) ((viewW x).rn k)) := hf.row
    obtain ⟨n1, hn1⟩ : ∃ n, n = (viewW x).rn k := ⟨_, rfl⟩
    rw [← hn1] at g1
    obtain ⟨e1, f1, rfl, _⟩ := own_form g1
    have HN1 : Hid (n1 = (viewW x).rn k) := hn1
    have HG1 : Hid (W.ownsRow s0 116 5 (.slice e1 n1 f1) n1 (rowList ((viewW x).rf k) n1)) := g1
    have g2 : W.ownsRow s0 3 1 lv ((viewW x).ln k) (intList ((viewW x).lf k) ((viewW x).ln k)) := hf.lan
    obtain ⟨n2, hn2⟩ : ∃ n, n = (viewW x).ln k := ⟨_, rfl⟩
    rw [← hn2] at g2
    obtain ⟨e2, f2, rfl, _⟩ := own_form g2
    have HN2 : Hid (n2 = (viewW x).ln k) := hn2
    have HG2 : Hid (W.ownsRow s0 3 1 (.slice e2 n2 f2) n2 (intList ((viewW x).lf k) n2)) := g2
    have g3 : W.ownsRow s0 3 1 qv ((viewW x).qn k) (intList ((viewW x).qf k) ((viewW x).qn k)) := hf.ber
    obtain ⟨n3, hn3⟩ : ∃ n, n = (viewW x).qn k := ⟨_, rfl⟩
    rw [← hn3] at g3
    obtain ⟨e3, f3, rfl, _⟩ := own_form g3
    have HN3 : Hid (n3 = (viewW x).qn k) := hn3
    have HG3 : Hid (W.ownsRow s0 3 1 (.slice e3 n3 f3) n3 (intList ((viewW x).qf k) n3)) := g3
    have HFA : Hid (∀ b, (Value.slice e2 n2 f2).ownBlock = some b → (Value.slice e3 n3 f3).ownBlock ≠ some b) := hf.far
    have HPF : Hid (p = (viewW x).pf k) := hf.peo
    have HQQ : Hid (W0.heap.size ≤ s0 ∧ (∀ i, i < k → ∀ b, (R i).ownBlock = some b → b < s0) ∧ (∀ i, i < k → ∀ b, (L i).ownBlock = some b → b < s0) ∧ (∀ i, i < k → ∀ b, (Q i).ownBlock = some b → b < s0) ∧ ∀ b, (Value.slice ap k cp).ownBlock = some b → b < s0) := ⟨q1, q2, q3, q4, q5⟩
    have HS0 : Hid (RVt W W0 W w.heap.size U1.heap.size (W0.heap.size + 1) #[.slice asa x.san csa, .slice ald x.ldn cld, .slice abk x.bkn cbk] (viewW x) k k k k sb #[.slice e1 n1 f1, .slice e2 n2 f2, .slice e3 n3 f3, .int .i64 p] (.slice (some ⟨gb, 0, none⟩) x.bkn x.bkn) (.slice ar k cr) (.slice al k cl) (.slice aq k cq) (.slice ap k cp) (.slice ar k cr) (.slice al k cl) (.slice aq k cq) (.slice ap k cp) E R L Q) := ⟨⟨h.vt, h.box, hsb, h.bel, hlt⟩, h.obx, KeepsOthers.refl _, Below.refl _ _, hns, by omega⟩
    have HLE : Hid ((pre ++ [((.slice e1 n1 f1, .slice e2 n2 f2, .slice e3 n3 f3, p) : SightV)]).length = k + 1) := hlen
    clear hf h q1 q2 q3 q4 q5 g1 g2 g3 hn1 hn2 hn3 hlen HT0 VB5 bOb hV5 hsb hk
    have b0v := blk_cell HS0.out.sv.box 1 _ rfl
    have b0s := blk_cell HS0.out.sv.sbx 0 _ rfl
    have HD0 : Hid (RVt W W0 (W.alloc (.cells #[.slice e1 n1 f1] 55)) w.heap.size U1.heap.size (W0.heap.size + 1) #[.slice asa x.san csa, .slice ald x.ldn cld, .slice abk x.bkn cbk] (viewW x) k k k k sb #[.slice e1 n1 f1, .slice e2 n2 f2, .slice e3 n3 f3, .int .i64 p] (.slice (some ⟨gb, 0, none⟩) x.bkn x.bkn) (.slice ar k cr) (.slice al k cl) (.slice aq k cq) (.slice ap k cp) (.slice ar k cr) (.slice al k cl) (.slice aq k cq) (.slice ap k cp) E R L Q) := HS0.out.alloc _
    have HW0 : Hid (∀ i q, [(.slice e1 n1 f1 : Value)][i]? = some q → (W.alloc (.cells #[.slice e1 n1 f1] 55)).cell? ((⟨W.heap.size, 0, none⟩ : Addr).add i) = some q) := World.news_of_block (cs := #[.slice e1 n1 f1]) (t := 55) (fr := (0, 0)) (heap_alloc_new W _)
    have hl0 : W0.heap.size ≤ (W.alloc (.cells #[.slice e1 n1 f1] 55)).heap.size := Nat.le_of_lt (blk_lt HD0.out.sv.box)
    have HX10 : Hid ((W.alloc (.cells #[.slice e1 n1 f1] 55)).ownsRow s0 116 5 (.slice e1 n1 f1) n1 (rowList ((viewW x).rf k) n1)) := own_below (push (Below.refl _ _) _) HG1.out
    have HX20 : Hid ((W.alloc (.cells #[.slice e1 n1 f1] 55)).ownsRow s0 3 1 (.slice e2 n2 f2) n2 (intList ((viewW x).lf k) n2)) := own_below (push (Below.refl _ _) _) HG2.out
    have HX30 : Hid ((W.alloc (.cells #[.slice e1 n1 f1] 55)).ownsRow s0 3 1 (.slice e3 n3 f3) n3 (intList ((viewW x).qf k) n3)) := own_below (push (Below.refl _ _) _) HG3.out
    gi_wp2_with (gi_at_builtin; refine Hid.out ?_)
    unfold Hid
    refine wpListIn_append_own_at _ (by rfl) (.tmp 18) (.tmp 21) 29 (by rfl) W0.heap.size 55 r0 (.slice none 0 0) 1 24 Tryz.underlying29 ri rz0 rz1 rz2 rfl (by decide) (.slice ar k cr) k ((List.range k).map R) (by rfl) HD0.out.sv.vt.rows.row ⟨W.heap.size, 0, none⟩ 1 1 [.slice e1 n1 f1] (by rfl) (by rfl) HW0.out (by intro q hq; simp at hq; rw [hq]; rfl) (by unfold maxLen; omega) (by omega) hl0 ?_
    intro v0 z0 hoA hgA hnA hatA
    obtain ⟨gr, cr2, rfl⟩ := ownsRow_succ hoA
    clear hnA
    obtain ⟨⟨w1, w2, w3⟩, w4, w5, w6⟩ := HD0.out.grow HD0.out.sv.vt.rows.row hgA (by decide) (by decide) (by decide)
    have HZ0 : Hid (RVt W W0 z0 w.heap.size U1.heap.size (W0.heap.size + 1) #[.slice asa x.san csa, .slice ald x.ldn cld, .slice abk x.bkn cbk] (viewW x) (k + 1) k k k sb #[.slice e1 n1 f1, .slice e2 n2 f2, .slice e3 n3 f3, .int .i64 p] (.slice (some ⟨gb, 0, none⟩) x.bkn x.bkn) (.slice (some ⟨gr, 0, none⟩) (k + 1) cr2) (.slice al k cl) (.slice aq k cq) (.slice ap k cp) (.slice ar k cr) (.slice al k cl) (.slice aq k cq) (.slice ap k cp) E (atV R k (.slice e1 n1 f1)) L Q) := ⟨⟨HD0.out.sv.vt.row (by have g := own_base HX10.out HQQ.out.1; rw [HN1.out] at g ⊢; exact g) (fun i hi b q1 q2 => by have h5 := HQQ.out.2.1 i hi b q1; have h6 := (World.ownsRow.lt HX10.out b q2).1; omega) hgA hoA, w1, w2, w3, HD0.out.sv.lt⟩, w4, w5, w6, HD0.out.le, HD0.out.ne⟩
    have zc0 := blk_cell HZ0.out.sv.box 1 _ rfl
    have zf0 := blk_free HZ0.out.sv.box 1
    have hs0 := HZ0.out.sto 1 (.slice (some ⟨gr, 0, none⟩) (k + 1) cr2)
    have HS1 : Hid (RVt W W0 (z0.setCell ⟨W0.heap.size, 1, none⟩ (.slice (some ⟨gr, 0, none⟩) (k + 1) cr2)) w.heap.size U1.heap.size (W0.heap.size + 1) #[.slice asa x.san csa, .slice ald x.ldn cld, .slice abk x.bkn cbk] (viewW x) (k + 1) k k k sb #[.slice e1 n1 f1, .slice e2 n2 f2, .slice e3 n3 f3, .int .i64 p] (.slice (some ⟨gb, 0, none⟩) x.bkn x.bkn) (.slice (some ⟨gr, 0, none⟩) (k + 1) cr2) (.slice al k cl) (.slice aq k cq) (.slice ap k cp) (.slice (some ⟨gr, 0, none⟩) (k + 1) cr2) (.slice al k cl) (.slice aq k cq) (.slice ap k cp) E (atV R k (.slice e1 n1 f1)) L Q) := ⟨⟨hs0.1, hs0.2.1, hs0.2.2.1, hs0.2.2.2.1, HD0.out.sv.lt⟩, hs0.2.2.2.2.1, hs0.2.2.2.2.2.1, hs0.2.2.2.2.2.2, HD0.out.le, HD0.out.ne⟩
    have HG21 : Hid ((z0.setCell ⟨W0.heap.size, 1, none⟩ (.slice (some ⟨gr, 0, none⟩) (k + 1) cr2)).ownsRow s0 3 1 (.slice e2 n2 f2) n2 (intList ((viewW x).lf k) n2)) := row_carry HD0.out.sv.vt.rows.row hgA HX20.out (by decide) w1 (by decide) _ _
    have HG31 : Hid ((z0.setCell ⟨W0.heap.size, 1, none⟩ (.slice (some ⟨gr, 0, none⟩) (k + 1) cr2)).ownsRow s0 3 1 (.slice e3 n3 f3) n3 (intList ((viewW x).qf k) n3)) := row_carry HD0.out.sv.vt.rows.row hgA HX30.out (by decide) w1 (by decide) _ _
    have y0v := blk_cell HZ0.out.sv.box 2 _ rfl
    have y0s := blk_cell HZ0.out.sv.sbx 1 _ rfl
    have b1v := blk_cell HS1.out.sv.box 2 _ rfl
    have b1s := blk_cell HS1.out.sv.sbx 1 _ rfl
    have HD1 : Hid (RVt W W0 ((z0.setCell ⟨W0.heap.size, 1, none⟩ (.slice (some ⟨gr, 0, none⟩) (k + 1) cr2)).alloc (.cells #[.slice e2 n2 f2] 31)) w.heap.size U1.heap.size (W0.heap.size + 1) #[.slice asa x.san csa, .slice ald x.ldn cld, .slice abk x.bkn cbk] (viewW x) (k + 1) k k k sb #[.slice e1 n1 f1, .slice e2 n2 f2, .slice e3 n3 f3, .int .i64 p] (.slice (some ⟨gb, 0, none⟩) x.bkn x.bkn) (.slice (some ⟨gr, 0, none⟩) (k + 1) cr2) (.slice al k cl) (.slice aq k cq) (.slice ap k cp) (.slice (some ⟨gr, 0, none⟩) (k + 1) cr2) (.slice al k cl) (.slice aq k cq) (.slice ap k cp) E (atV R k (.slice e1 n1 f1)) L Q) := HS1.out.alloc _
    have HW1 : Hid (∀ i q, [(.slice e2 n2 f2 : Value)][i]? = some q → ((z0.setCell ⟨W0.heap.size, 1, none⟩ (.slice (some ⟨gr, 0, none⟩) (k + 1) cr2)).alloc (.cells #[.slice e2 n2 f2] 31)).cell? ((⟨z0.heap.size, 0, none⟩ : Addr).add i) = some q) := by have hh := World.news_of_block (cs := #[.slice e2 n2 f2]) (t := 31) (fr := (0, 0)) (heap_alloc_new (z0.setCell ⟨W0.heap.size, 1, none⟩ (.slice (some ⟨gr, 0, none⟩) (k + 1) cr2)) (.cells #[.slice e2 n2 f2] 31)); rw [show (z0.setCell ⟨W0.heap.size, 1, none⟩ (.slice (some ⟨gr, 0, none⟩) (k + 1) cr2)).heap.size = z0.heap.size by simp] at hh; exact hh
    have hl1 : W0.heap.size ≤ ((z0.setCell ⟨W0.heap.size, 1, none⟩ (.slice (some ⟨gr, 0, none⟩) (k + 1) cr2)).alloc (.cells #[.slice e2 n2 f2] 31)).heap.size := Nat.le_of_lt (blk_lt HD1.out.sv.box)
    have HX21 : Hid (((z0.setCell ⟨W0.heap.size, 1, none⟩ (.slice (some ⟨gr, 0, none⟩) (k + 1) cr2)).alloc (.cells #[.slice e2 n2 f2] 31)).ownsRow s0 3 1 (.slice e2 n2 f2) n2 (intList ((viewW x).lf k) n2)) := own_below (push (Below.refl _ _) _) HG21.out
    have HX31 : Hid (((z0.setCell ⟨W0.heap.size, 1, none⟩ (.slice (some ⟨gr, 0, none⟩) (k + 1) cr2)).alloc (.cells #[.slice e2 n2 f2] 31)).ownsRow s0 3 1 (.slice e3 n3 f3) n3 (intList ((viewW x).qf k) n3)) := own_below (push (Below.refl _ _) _) HG31.out
    clear hoA hgA hatA w1 w2 w3 w4 w5 w6 hs0 HD0 HW0 hl0
    gi_wp2_with (gi_at_builtin; refine Hid.out ?_)
    unfold Hid
    refine wpListIn_append_own_at _ (by rfl) (.tmp 25) (.tmp 28) 30 (by rfl) W0.heap.size 31 i0 (.slice none 0 0) 1 24 Tryz.underlying30 ii iz0 iz1 iz2 rfl (by decide) (.slice al k cl) k ((List.range k).map L) (by rfl) HD1.out.sv.vt.lan.row ⟨z0.heap.size, 0, none⟩ 1 1 [.slice e2 n2 f2] (by rfl) (by rfl) HW1.out (by intro q hq; simp at hq; rw [hq]; rfl) (by unfold maxLen; omega) (by omega) hl1 ?_
    intro v1 z1 hoA hgA hnA hatA
    obtain ⟨gl, cl2, rfl⟩ := ownsRow_succ hoA
    clear hnA
    obtain ⟨⟨w1, w2, w3⟩, w4, w5, w6⟩ := HD1.out.grow HD1.out.sv.vt.lan.row hgA (by decide) (by decide) (by decide)
    have HZ1 : Hid (RVt W W0 z1 w.heap.size U1.heap.size (W0.heap.size + 1) #[.slice asa x.san csa, .slice ald x.ldn cld, .slice abk x.bkn cbk] (viewW x) (k + 1) (k + 1) k k sb #[.slice e1 n1 f1, .slice e2 n2 f2, .slice e3 n3 f3, .int .i64 p] (.slice (some ⟨gb, 0, none⟩) x.bkn x.bkn) (.slice (some ⟨gr, 0, none⟩) (k + 1) cr2) (.slice (some ⟨gl, 0, none⟩) (k + 1) cl2) (.slice aq k cq) (.slice ap k cp) (.slice (some ⟨gr, 0, none⟩) (k + 1) cr2) (.slice al k cl) (.slice aq k cq) (.slice ap k cp) E (atV R k (.slice e1 n1 f1)) (atV L k (.slice e2 n2 f2)) Q) := ⟨⟨HD1.out.sv.vt.lane (by have g := own_base HX21.out HQQ.out.1; rw [HN2.out] at g ⊢; exact g) (fun i hi b q1 q2 => by have h5 := HQQ.out.2.2.1 i hi b q1; have h6 := (World.ownsRow.lt HX21.out b q2).1; omega) (fun i hi b q1 q2 => by have h5 := HQQ.out.2.2.2.1 i hi b q1; have h6 := (World.ownsRow.lt HX21.out b q2).1; omega) (fun b q2 q1 => by have h5 := HQQ.out.2.2.2.2 b q1; have h6 := (World.ownsRow.lt HX21.out b q2).1; omega) hgA hoA (fun b q => by rcases hatA with h | h; exact .inl (h.symm.trans q); exact .inr (by have e := h.symm.trans q; simp only [Option.some.injEq] at e; omega)), w1, w2, w3, HD1.out.sv.lt⟩, w4, w5, w6, HD1.out.le, HD1.out.ne⟩
    have zc1 := blk_cell HZ1.out.sv.box 2 _ rfl
    have zf1 := blk_free HZ1.out.sv.box 2
    have hs1 := HZ1.out.sto 2 (.slice (some ⟨gl, 0, none⟩) (k + 1) cl2)
    have HS2 : Hid (RVt W W0 (z1.setCell ⟨W0.heap.size, 2, none⟩ (.slice (some ⟨gl, 0, none⟩) (k + 1) cl2)) w.heap.size U1.heap.size (W0.heap.size + 1) #[.slice asa x.san csa, .slice ald x.ldn cld, .slice abk x.bkn cbk] (viewW x) (k + 1) (k + 1) k k sb #[.slice e1 n1 f1, .slice e2 n2 f2, .slice e3 n3 f3, .int .i64 p] (.slice (some ⟨gb, 0, none⟩) x.bkn x.bkn) (.slice (some ⟨gr, 0, none⟩) (k + 1) cr2) (.slice (some ⟨gl, 0, none⟩) (k + 1) cl2) (.slice aq k cq) (.slice ap k cp) (.slice (some ⟨gr, 0, none⟩) (k + 1) cr2) (.slice (some ⟨gl, 0, none⟩) (k + 1) cl2) (.slice aq k cq) (.slice ap k cp) E (atV R k (.slice e1 n1 f1)) (atV L k (.slice e2 n2 f2)) Q) := ⟨⟨hs1.1, hs1.2.1, hs1.2.2.1, hs1.2.2.2.1, HD1.out.sv.lt⟩, hs1.2.2.2.2.1, hs1.2.2.2.2.2.1, hs1.2.2.2.2.2.2, HD1.out.le, HD1.out.ne⟩
    have HG32 : Hid ((z1.setCell ⟨W0.heap.size, 2, none⟩ (.slice (some ⟨gl, 0, none⟩) (k + 1) cl2)).ownsRow s0 3 1 (.slice e3 n3 f3) n3 (intList ((viewW x).qf k) n3)) := row_carry HD1.out.sv.vt.lan.row hgA HX31.out (by decide) w1 (by decide) _ _
    have y1v := blk_cell HZ1.out.sv.box 3 _ rfl
    have y1s := blk_cell HZ1.out.sv.sbx 2 _ rfl
    have b2v := blk_cell HS2.out.sv.box 3 _ rfl
    have b2s := blk_cell HS2.out.sv.sbx 2 _ rfl
    have HD2 : Hid (RVt W W0 ((z1.setCell ⟨W0.heap.size, 2, none⟩ (.slice (some ⟨gl, 0, none⟩) (k + 1) cl2)).alloc (.cells #[.slice e3 n3 f3] 31)) w.heap.size U1.heap.size (W0.heap.size + 1) #[.slice asa x.san csa, .slice ald x.ldn cld, .slice abk x.bkn cbk] (viewW x) (k + 1) (k + 1) k k sb #[.slice e1 n1 f1, .slice e2 n2 f2, .slice e3 n3 f3, .int .i64 p] (.slice (some ⟨gb, 0, none⟩) x.bkn x.bkn) (.slice (some ⟨gr, 0, none⟩) (k + 1) cr2) (.slice (some ⟨gl, 0, none⟩) (k + 1) cl2) (.slice aq k cq) (.slice ap k cp) (.slice (some ⟨gr, 0, none⟩) (k + 1) cr2) (.slice (some ⟨gl, 0, none⟩) (k + 1) cl2) (.slice aq k cq) (.slice ap k cp) E (atV R k (.slice e1 n1 f1)) (atV L k (.slice e2 n2 f2)) Q) := HS2.out.alloc _
    have HW2 : Hid (∀ i q, [(.slice e3 n3 f3 : Value)][i]? = some q → ((z1.setCell ⟨W0.heap.size, 2, none⟩ (.slice (some ⟨gl, 0, none⟩) (k + 1) cl2)).alloc (.cells #[.slice e3 n3 f3] 31)).cell? ((⟨z1.heap.size, 0, none⟩ : Addr).add i) = some q) := by have hh := World.news_of_block (cs := #[.slice e3 n3 f3]) (t := 31) (fr := (0, 0)) (heap_alloc_new (z1.setCell ⟨W0.heap.size, 2, none⟩ (.slice (some ⟨gl, 0, none⟩) (k + 1) cl2)) (.cells #[.slice e3 n3 f3] 31)); rw [show (z1.setCell ⟨W0.heap.size, 2, none⟩ (.slice (some ⟨gl, 0, none⟩) (k + 1) cl2)).heap.size = z1.heap.size by simp] at hh; exact hh
    have hl2 : W0.heap.size ≤ ((z1.setCell ⟨W0.heap.size, 2, none⟩ (.slice (some ⟨gl, 0, none⟩) (k + 1) cl2)).alloc (.cells #[.slice e3 n3 f3] 31)).heap.size := Nat.le_of_lt (blk_lt HD2.out.sv.box)
    have HX32 : Hid (((z1.setCell ⟨W0.heap.size, 2, none⟩ (.slice (some ⟨gl, 0, none⟩) (k + 1) cl2)).alloc (.cells #[.slice e3 n3 f3] 31)).ownsRow s0 3 1 (.slice e3 n3 f3) n3 (intList ((viewW x).qf k) n3)) := own_below (push (Below.refl _ _) _) HG32.out
    clear hoA hgA hatA w1 w2 w3 w4 w5 w6 hs1 HD1 HW1 hl1
    gi_wp2_with (gi_at_builtin; refine Hid.out ?_)
    unfold Hid
    refine wpListIn_append_own_at _ (by rfl) (.tmp 32) (.tmp 35) 30 (by rfl) W0.heap.size 31 i0 (.slice none 0 0) 1 24 Tryz.underlying30 ii iz0 iz1 iz2 rfl (by decide) (.slice aq k cq) k ((List.range k).map Q) (by rfl) HD2.out.sv.vt.ber.row ⟨z1.heap.size, 0, none⟩ 1 1 [.slice e3 n3 f3] (by rfl) (by rfl) HW2.out (by intro q hq; simp at hq; rw [hq]; rfl) (by unfold maxLen; omega) (by omega) hl2 ?_
    intro v2 z2 hoA hgA hnA hatA
    obtain ⟨gq, cq2, rfl⟩ := ownsRow_succ hoA
    clear hnA
    obtain ⟨⟨w1, w2, w3⟩, w4, w5, w6⟩ := HD2.out.grow HD2.out.sv.vt.ber.row hgA (by decide) (by decide) (by decide)
    have HZ2 : Hid (RVt W W0 z2 w.heap.size U1.heap.size (W0.heap.size + 1) #[.slice asa x.san csa, .slice ald x.ldn cld, .slice abk x.bkn cbk] (viewW x) (k + 1) (k + 1) (k + 1) k sb #[.slice e1 n1 f1, .slice e2 n2 f2, .slice e3 n3 f3, .int .i64 p] (.slice (some ⟨gb, 0, none⟩) x.bkn x.bkn) (.slice (some ⟨gr, 0, none⟩) (k + 1) cr2) (.slice (some ⟨gl, 0, none⟩) (k + 1) cl2) (.slice (some ⟨gq, 0, none⟩) (k + 1) cq2) (.slice ap k cp) (.slice (some ⟨gr, 0, none⟩) (k + 1) cr2) (.slice (some ⟨gl, 0, none⟩) (k + 1) cl2) (.slice aq k cq) (.slice ap k cp) E (atV R k (.slice e1 n1 f1)) (atV L k (.slice e2 n2 f2)) (atV Q k (.slice e3 n3 f3))) := ⟨⟨HD2.out.sv.vt.berth (by have g := own_base HX32.out HQQ.out.1; rw [HN3.out] at g ⊢; exact g) (fun i hi b q1 q2 => by have h5 := HQQ.out.2.2.2.1 i hi b q1; have h6 := (World.ownsRow.lt HX32.out b q2).1; omega) (fun i hi b q1 q2 => by by_cases e : i = k; (subst e; rw [atV_at] at q1; exact HFA.out b q1 q2); (rw [atV_ne _ _ _ _ e] at q1; have h5 := HQQ.out.2.2.1 i (by omega) b q1; have h6 := (World.ownsRow.lt HX32.out b q2).1; omega)) (fun b q2 q1 => by have h5 := HQQ.out.2.2.2.2 b q1; have h6 := (World.ownsRow.lt HX32.out b q2).1; omega) hgA hoA (fun b q => by rcases hatA with h | h; exact .inl (h.symm.trans q); exact .inr (by have e := h.symm.trans q; simp only [Option.some.injEq] at e; omega)), w1, w2, w3, HD2.out.sv.lt⟩, w4, w5, w6, HD2.out.le, HD2.out.ne⟩
    have zc2 := blk_cell HZ2.out.sv.box 3 _ rfl
    have zf2 := blk_free HZ2.out.sv.box 3
    have hs2 := HZ2.out.sto 3 (.slice (some ⟨gq, 0, none⟩) (k + 1) cq2)
    have HS3 : Hid (RVt W W0 (z2.setCell ⟨W0.heap.size, 3, none⟩ (.slice (some ⟨gq, 0, none⟩) (k + 1) cq2)) w.heap.size U1.heap.size (W0.heap.size + 1) #[.slice asa x.san csa, .slice ald x.ldn cld, .slice abk x.bkn cbk] (viewW x) (k + 1) (k + 1) (k + 1) k sb #[.slice e1 n1 f1, .slice e2 n2 f2, .slice e3 n3 f3, .int .i64 p] (.slice (some ⟨gb, 0, none⟩) x.bkn x.bkn) (.slice (some ⟨gr, 0, none⟩) (k + 1) cr2) (.slice (some ⟨gl, 0, none⟩) (k + 1) cl2) (.slice (some ⟨gq, 0, none⟩) (k + 1) cq2) (.slice ap k cp) (.slice (some ⟨gr, 0, none⟩) (k + 1) cr2) (.slice (some ⟨gl, 0, none⟩) (k + 1) cl2) (.slice (some ⟨gq, 0, none⟩) (k + 1) cq2) (.slice ap k cp) E (atV R k (.slice e1 n1 f1)) (atV L k (.slice e2 n2 f2)) (atV Q k (.slice e3 n3 f3))) := ⟨⟨hs2.1, hs2.2.1, hs2.2.2.1, hs2.2.2.2.1, HD2.out.sv.lt⟩, hs2.2.2.2.2.1, hs2.2.2.2.2.2.1, hs2.2.2.2.2.2.2, HD2.out.le, HD2.out.ne⟩
    have y2v := blk_cell HZ2.out.sv.box 4 _ rfl
    have y2s := blk_cell HZ2.out.sv.sbx 3 _ rfl
    have b3v := blk_cell HS3.out.sv.box 4 _ rfl
    have b3s := blk_cell HS3.out.sv.sbx 3 _ rfl
    have HD3 : Hid (RVt W W0 ((z2.setCell ⟨W0.heap.size, 3, none⟩ (.slice (some ⟨gq, 0, none⟩) (k + 1) cq2)).alloc (.cells #[.int .i64 p] 3)) w.heap.size U1.heap.size (W0.heap.size + 1) #[.slice asa x.san csa, .slice ald x.ldn cld, .slice abk x.bkn cbk] (viewW x) (k + 1) (k + 1) (k + 1) k sb #[.slice e1 n1 f1, .slice e2 n2 f2, .slice e3 n3 f3, .int .i64 p] (.slice (some ⟨gb, 0, none⟩) x.bkn x.bkn) (.slice (some ⟨gr, 0, none⟩) (k + 1) cr2) (.slice (some ⟨gl, 0, none⟩) (k + 1) cl2) (.slice (some ⟨gq, 0, none⟩) (k + 1) cq2) (.slice ap k cp) (.slice (some ⟨gr, 0, none⟩) (k + 1) cr2) (.slice (some ⟨gl, 0, none⟩) (k + 1) cl2) (.slice (some ⟨gq, 0, none⟩) (k + 1) cq2) (.slice ap k cp) E (atV R k (.slice e1 n1 f1)) (atV L k (.slice e2 n2 f2)) (atV Q k (.slice e3 n3 f3))) := HS3.out.alloc _
    have HW3 : Hid (∀ i q, [(.int .i64 p : Value)][i]? = some q → ((z2.setCell ⟨W0.heap.size, 3, none⟩ (.slice (some ⟨gq, 0, none⟩) (k + 1) cq2)).alloc (.cells #[.int .i64 p] 3)).cell? ((⟨z2.heap.size, 0, none⟩ : Addr).add i) = some q) := by have hh := World.news_of_block (cs := #[.int .i64 p]) (t := 3) (fr := (0, 0)) (heap_alloc_new (z2.setCell ⟨W0.heap.size, 3, none⟩ (.slice (some ⟨gq, 0, none⟩) (k + 1) cq2)) (.cells #[.int .i64 p] 3)); rw [show (z2.setCell ⟨W0.heap.size, 3, none⟩ (.slice (some ⟨gq, 0, none⟩) (k + 1) cq2)).heap.size = z2.heap.size by simp] at hh; exact hh
    have hl3 : W0.heap.size ≤ ((z2.setCell ⟨W0.heap.size, 3, none⟩ (.slice (some ⟨gq, 0, none⟩) (k + 1) cq2)).alloc (.cells #[.int .i64 p] 3)).heap.size := Nat.le_of_lt (blk_lt HD3.out.sv.box)
    clear hoA hgA hatA w1 w2 w3 w4 w5 w6 hs2 HD2 HW2 hl2
    gi_wp2_with (gi_at_builtin; refine Hid.out ?_)
    unfold Hid
    refine wpListIn_append_own_at _ (by rfl) (.tmp 39) (.tmp 42) 31 (by rfl) W0.heap.size 3 p0 (.int .i64 0) 1 8 Tryz.underlying31 pi pz0 pz1 pz2 rfl (by decide) (.slice ap k cp) k (intList (viewW x).pf k) (by rfl) HD3.out.sv.vt.peo ⟨z2.heap.size, 0, none⟩ 1 1 [.int .i64 p] (by rfl) (by rfl) HW3.out (by intro q hq; simp at hq; rw [hq]; rfl) (by unfold maxLen; omega) (by omega) hl3 ?_
    intro v3 z3 hoA hgA hnA hatA
    obtain ⟨gp, cp2, rfl⟩ := ownsRow_succ hoA
    clear hnA
    obtain ⟨⟨w1, w2, w3⟩, w4, w5, w6⟩ := HD3.out.grow HD3.out.sv.vt.peo hgA (by decide) (by decide) (by decide)
    have HZ3 : Hid (RVt W W0 z3 w.heap.size U1.heap.size (W0.heap.size + 1) #[.slice asa x.san csa, .slice ald x.ldn cld, .slice abk x.bkn cbk] (viewW x) (k + 1) (k + 1) (k + 1) (k + 1) sb #[.slice e1 n1 f1, .slice e2 n2 f2, .slice e3 n3 f3, .int .i64 p] (.slice (some ⟨gb, 0, none⟩) x.bkn x.bkn) (.slice (some ⟨gr, 0, none⟩) (k + 1) cr2) (.slice (some ⟨gl, 0, none⟩) (k + 1) cl2) (.slice (some ⟨gq, 0, none⟩) (k + 1) cq2) (.slice (some ⟨gp, 0, none⟩) (k + 1) cp2) (.slice (some ⟨gr, 0, none⟩) (k + 1) cr2) (.slice (some ⟨gl, 0, none⟩) (k + 1) cl2) (.slice (some ⟨gq, 0, none⟩) (k + 1) cq2) (.slice ap k cp) E (atV R k (.slice e1 n1 f1)) (atV L k (.slice e2 n2 f2)) (atV Q k (.slice e3 n3 f3))) := ⟨⟨HD3.out.sv.vt.people hgA (by have g := hoA; rw [HPF.out] at g; exact g) (fun b q => by rcases hatA with h | h; exact .inl (h.symm.trans q); exact .inr (by have e := h.symm.trans q; simp only [Option.some.injEq] at e; omega)), w1, w2, w3, HD3.out.sv.lt⟩, w4, w5, w6, HD3.out.le, HD3.out.ne⟩
    have zc3 := blk_cell HZ3.out.sv.box 4 _ rfl
    have zf3 := blk_free HZ3.out.sv.box 4
    have hs3 := HZ3.out.sto 4 (.slice (some ⟨gp, 0, none⟩) (k + 1) cp2)
    have HS4 : Hid (RVt W W0 (z3.setCell ⟨W0.heap.size, 4, none⟩ (.slice (some ⟨gp, 0, none⟩) (k + 1) cp2)) w.heap.size U1.heap.size (W0.heap.size + 1) #[.slice asa x.san csa, .slice ald x.ldn cld, .slice abk x.bkn cbk] (viewW x) (k + 1) (k + 1) (k + 1) (k + 1) sb #[.slice e1 n1 f1, .slice e2 n2 f2, .slice e3 n3 f3, .int .i64 p] (.slice (some ⟨gb, 0, none⟩) x.bkn x.bkn) (.slice (some ⟨gr, 0, none⟩) (k + 1) cr2) (.slice (some ⟨gl, 0, none⟩) (k + 1) cl2) (.slice (some ⟨gq, 0, none⟩) (k + 1) cq2) (.slice (some ⟨gp, 0, none⟩) (k + 1) cp2) (.slice (some ⟨gr, 0, none⟩) (k + 1) cr2) (.slice (some ⟨gl, 0, none⟩) (k + 1) cl2) (.slice (some ⟨gq, 0, none⟩) (k + 1) cq2) (.slice (some ⟨gp, 0, none⟩) (k + 1) cp2) E (atV R k (.slice e1 n1 f1)) (atV L k (.slice e2 n2 f2)) (atV Q k (.slice e3 n3 f3))) := ⟨⟨hs3.1, hs3.2.1, hs3.2.2.1, hs3.2.2.2.1, HD3.out.sv.lt⟩, hs3.2.2.2.2.1, hs3.2.2.2.2.2.1, hs3.2.2.2.2.2.2, HD3.out.le, HD3.out.ne⟩
    clear hoA hgA hatA w1 w2 w3 w4 w5 w6 hs3 HD3 HW3 hl3
    gi_wp2
    refine ⟨HS4.out.ko, ⟨HS4.out.ba, HS4.out.obx.trans HS0.out.obx.symm⟩, ?_⟩
    unfold SeeI
    rw [HLE.out]
    exact ⟨some ⟨gr, 0, none⟩, some ⟨gl, 0, none⟩, some ⟨gq, 0, none⟩, some ⟨gp, 0, none⟩, cr2, cl2, cq2, cp2, _, _, _, HS4.out.sv.vt, HS4.out.sv.box, HS4.out.obx, HS4.out.sv.bel⟩
  case done =>
    rintro D xs W hD hxs ⟨ar, al, aq, ap, cr, cl, cq, cp, R, L, Q, h⟩ hK
    rw [hxs] at h
    have HV : Hid (viewA x = viewW x) := viewA_yes HOK.out
    have bRr := blk_below bR h.bel
    have hwW : Below w.heap.size w W := after hbw2 h.bel
    have hWl := blk_lt h.box
    have hDl : D < W.heap.size := (Array.getElem?_eq_some_iff.1 hK).1
    have v0 := blk_cell h.box 0 _ rfl
    have z0 := blk_cell bRr 0 _ rfl
    have f0 := blk_free bRr 0
    have v1 := blk_cell h.box 1 _ rfl
    have z1 := blk_cell bRr 1 _ rfl
    have f1 := blk_free bRr 1
    have v2 := blk_cell h.box 2 _ rfl
    have z2 := blk_cell bRr 2 _ rfl
    have f2 := blk_free bRr 2
    have v3 := blk_cell h.box 3 _ rfl
    have z3 := blk_cell bRr 3 _ rfl
    have f3 := blk_free bRr 3
    have v4 := blk_cell h.box 4 _ rfl
    have z4 := blk_cell bRr 4 _ rfl
    have f4 := blk_free bRr 4
    have hkF : Kept W (((((W.setCell ⟨w.heap.size + 1, 0, none⟩ (.slice (some ⟨gb, 0, none⟩) x.bkn x.bkn)).setCell ⟨w.heap.size + 1, 1, none⟩ (.slice ar x.san cr)).setCell ⟨w.heap.size + 1, 2, none⟩ (.slice al x.san cl)).setCell ⟨w.heap.size + 1, 3, none⟩ (.slice aq x.san cq)).setCell ⟨w.heap.size + 1, 4, none⟩ (.slice ap x.san cp)) (fun b => b = w.heap.size + 1) := ((((((Kept.refl W (fun b => b = w.heap.size + 1)).set (a := ⟨w.heap.size + 1, 0, none⟩) rfl _).set (a := ⟨w.heap.size + 1, 1, none⟩) rfl _).set (a := ⟨w.heap.size + 1, 2, none⟩) rfl _).set (a := ⟨w.heap.size + 1, 3, none⟩) rfl _).set (a := ⟨w.heap.size + 1, 4, none⟩) rfl _)
    have rF : (((((W.setCell ⟨w.heap.size + 1, 0, none⟩ (.slice (some ⟨gb, 0, none⟩) x.bkn x.bkn)).setCell ⟨w.heap.size + 1, 1, none⟩ (.slice ar x.san cr)).setCell ⟨w.heap.size + 1, 2, none⟩ (.slice al x.san cl)).setCell ⟨w.heap.size + 1, 3, none⟩ (.slice aq x.san cq)).setCell ⟨w.heap.size + 1, 4, none⟩ (.slice ap x.san cp)).heap[w.heap.size + 1]? = some (.cells #[.slice (some ⟨gb, 0, none⟩) x.bkn x.bkn, .slice ar x.san cr, .slice al x.san cl, .slice aq x.san cq, .slice ap x.san cp] 33 (0, 0)) := blk_set (blk_set (blk_set (blk_set (blk_set (bRr) 0 _) 1 _) 2 _) 3 _) 4 _
    have hbF : Below w.heap.size w (((((W.setCell ⟨w.heap.size + 1, 0, none⟩ (.slice (some ⟨gb, 0, none⟩) x.bkn x.bkn)).setCell ⟨w.heap.size + 1, 1, none⟩ (.slice ar x.san cr)).setCell ⟨w.heap.size + 1, 2, none⟩ (.slice al x.san cl)).setCell ⟨w.heap.size + 1, 3, none⟩ (.slice aq x.san cq)).setCell ⟨w.heap.size + 1, 4, none⟩ (.slice ap x.san cp)) := setV (setV (setV (setV (setV (hwW) (by omega) _) (by omega) _) (by omega) _) (by omega) _) (by omega) _
    have HT1 : Hid (VTo (((((W.setCell ⟨w.heap.size + 1, 0, none⟩ (.slice (some ⟨gb, 0, none⟩) x.bkn x.bkn)).setCell ⟨w.heap.size + 1, 1, none⟩ (.slice ar x.san cr)).setCell ⟨w.heap.size + 1, 2, none⟩ (.slice al x.san cl)).setCell ⟨w.heap.size + 1, 3, none⟩ (.slice aq x.san cq)).setCell ⟨w.heap.size + 1, 4, none⟩ (.slice ap x.san cp)) U1.heap.size W0.heap.size (viewW x) x.san x.san x.san x.san (.slice (some ⟨gb, 0, none⟩) x.bkn x.bkn) (.slice ar x.san cr) (.slice al x.san cl) (.slice aq x.san cq) (.slice ap x.san cp) E R L Q) := h.vt.other hkF (fun b e => by have e : b = w.heap.size + 1 := e; subst e; exact ⟨_, _, bRr, by decide, by decide, by decide, by decide, by decide⟩)
    have hKF : (((((W.setCell ⟨w.heap.size + 1, 0, none⟩ (.slice (some ⟨gb, 0, none⟩) x.bkn x.bkn)).setCell ⟨w.heap.size + 1, 1, none⟩ (.slice ar x.san cr)).setCell ⟨w.heap.size + 1, 2, none⟩ (.slice al x.san cl)).setCell ⟨w.heap.size + 1, 3, none⟩ (.slice aq x.san cq)).setCell ⟨w.heap.size + 1, 4, none⟩ (.slice ap x.san cp)).heap[D]? = some (.deferred (some [])) := (hkF.block D hDl (fun e => by have e : D = w.heap.size + 1 := e; omega)).trans hK
    have HRL : Hid (w.heap.size ≤ U1.heap.size) := hbw1.size
    clear HT0
    go_wp2
    generalize ((((W.setCell ⟨w.heap.size + 1, 0, none⟩ (.slice (some ⟨gb, 0, none⟩) x.bkn x.bkn)).setCell ⟨w.heap.size + 1, 1, none⟩ (.slice ar x.san cr)).setCell ⟨w.heap.size + 1, 2, none⟩ (.slice al x.san cl)).setCell ⟨w.heap.size + 1, 3, none⟩ (.slice aq x.san cq)).setCell ⟨w.heap.size + 1, 4, none⟩ (.slice ap x.san cp) = UF at rF hbF HT1 hKF ⊢
    clear v0 v1 v2 v3 v4 z0 z1 z2 z3 z4 f0 f1 f2 f3 f4 hkF
    refine ⟨by simp, .inl ⟨_, _, rfl, run_takeDeferred hKF, ?_⟩⟩
    have rG : (UF.putObj D (.deferred none)).heap[w.heap.size + 1]? = some (.cells #[.slice (some ⟨gb, 0, none⟩) x.bkn x.bkn, .slice ar x.san cr, .slice al x.san cl, .slice aq x.san cq, .slice ap x.san cp] 33 (0, 0)) := (World.putObj_heap_other (by omega)).trans rF
    have hbG : Below w.heap.size w (UF.putObj D (.deferred none)) := hbF.grown (grownBy_putObj' UF D _) hbF.size (fun j e => by cases e; omega)
    have HT2 : Hid _ := VTo.whole (V := viewW x) (HT1.out.nocell (kept_row (grownBy_putObj' UF D (.deferred none))) (fun b e => by cases e; exact ⟨_, hKF, rfl⟩))
    have z0 := blk_cell rG 0 _ rfl
    have z1 := blk_cell rG 1 _ rfl
    have z2 := blk_cell rG 2 _ rfl
    have z3 := blk_cell rG 3 _ rfl
    have z4 := blk_cell rG 4 _ rfl
    refine ⟨.tuple #[.agg #[.slice (some ⟨gb, 0, none⟩) x.bkn x.bkn, .slice ar x.san cr, .slice al x.san cl, .slice aq x.san cq, .slice ap x.san cp], .bool true], by simp [results, Tryz.results7, go_sem, z0, z1, z2, z3, z4], ?_, hbG⟩
    rw [HV.out, ed]
    exact ⟨_, _, _, _, _, E, R, L, Q, U1.heap.size, W0.heap.size, HRL.out, rfl, HT2.out⟩
end Go.Proofs.YtlelckbeoclhbaaGreat

namespace Go.Proofs.YtlelckbeoclhbaaGreat
open Go.RowKit
def pairRow (p : Pairs) : List Value := (List.range (p.n * 2)).map (pairCell p)
theorem pairRow_length (p : Pairs) : (pairRow p).length = p.n * 2 := by simp [pairRow]
theorem pairRow_get {p : Pairs} {j : Nat} {u : Value} (h : (pairRow p)[j]? = some u) : j < p.n * 2 ∧ u = pairCell p j := by
  unfold pairRow at h
  rw [List.getElem?_map] at h
  by_cases hj : j < p.n * 2
  · rw [List.getElem?_range hj] at h; simp at h; exact ⟨hj, h.symm⟩
  · rw [List.getElem?_eq_none (by simpa using hj)] at h; cases h
theorem pairRow_one (p : Pairs) : ∀ u ∈ pairRow p, u.oneCell' = true := by
  intro u hu
  unfold pairRow at hu
  obtain ⟨j, _, rfl⟩ := List.mem_map.1 hu
  unfold pairCell
  split <;> rfl
theorem pairs_cells {w : World} {ao : Option Addr} {p : Pairs} (h : PairsAt w ao p) : ∀ ad, ao = some ad → ∀ j u, (pairRow p)[j]? = some u → w.cell? (ad.add j) = some u := by
  intro ad e j u hu
  obtain ⟨hj, rfl⟩ := pairRow_get hu
  obtain ⟨b, off, e2, h0, h1⟩ := h (j / 2) (by omega)
  rw [e] at e2
  cases e2
  rw [Addr.add_lit]
  unfold pairCell
  by_cases c : j % 2 = 0
  · rw [if_pos c, ← h0, show off + j / 2 * 2 = off + j by omega]
  · rw [if_neg c, ← h1, show off + j / 2 * 2 + 1 = off + j by omega]
theorem pairs_of_own {w : World} {base t c : Nat} {ao : Option Addr} {p : Pairs} (h : w.ownsRow base t 2 (.slice ao p.n c) p.n (pairRow p)) : PairsAt w ao p := by
  intro k hk
  obtain ⟨g, rfl, _, _⟩ := own_addr h (by omega)
  refine ⟨g, 0, rfl, ?_, ?_⟩
  · rw [Nat.zero_add, own_cell h (k * 2) (by omega) rfl, pairCell_0]
  · rw [Nat.zero_add, own_cell h (k * 2 + 1) (by omega) rfl, pairCell_1]
structure OwnSails (w : World) (base : Nat) (v : Value) (N : Nat) (S : Nat → Sail) (L C : Nat → Value) : Prop where
  row : w.ownsRow base 54 8 v N ((List.range (N * 8)).map (sailCell S L C))
  la : ∀ i, i < N → w.ownsRow base 122 2 (L i) (S i).la.n (pairRow (S i).la)
  ca : ∀ i, i < N → w.ownsRow base 124 2 (C i) (S i).ca.n (pairRow (S i).ca)
  apart : ∀ i j, i < j → j < N → (∀ b, (L i).ownBlock = some b → (L j).ownBlock ≠ some b) ∧ (∀ b, (C i).ownBlock = some b → (C j).ownBlock ≠ some b)
theorem OwnSails.below {w w' : World} {base : Nat} {v : Value} {N : Nat} {S : Nat → Sail} {L C : Nat → Value} (h : OwnSails w base v N S L C) (hb : Below w.heap.size w w') : OwnSails w' base v N S L C :=
  ⟨own_below hb h.row, fun i hi => own_below hb (h.la i hi), fun i hi => own_below hb (h.ca i hi), h.apart⟩
theorem OwnSails.kept {w w' : World} {base : Nat} {v : Value} {N : Nat} {S : Nat → Sail} {L C : Nat → Value} {T : Nat → Prop} (h : OwnSails w base v N S L C) (hk : Kept w w' T) (hT : ∀ b, T b → b < base) : OwnSails w' base v N S L C :=
  ⟨hk.own h.row (fun g hg s => by have := (h.row.lt g hg).1; have := hT g s; omega), fun i hi => hk.own (h.la i hi) (fun g hg s => by have := ((h.la i hi).lt g hg).1; have := hT g s; omega),
    fun i hi => hk.own (h.ca i hi) (fun g hg s => by have := ((h.ca i hi).lt g hg).1; have := hT g s; omega), h.apart⟩
theorem OwnSails.base {w : World} {b1 b2 : Nat} {v : Value} {N : Nat} {S : Nat → Sail} {L C : Nat → Value} (h : OwnSails w b1 v N S L C) (hb : b2 ≤ b1) : OwnSails w b2 v N S L C :=
  ⟨own_base h.row hb, fun i hi => own_base (h.la i hi) hb, fun i hi => own_base (h.ca i hi) hb, h.apart⟩
theorem OwnSails.at {w : World} {base : Nat} {ao : Option Addr} {N c : Nat} {S : Nat → Sail} {L C : Nat → Value} (h : OwnSails w base (.slice ao N c) N S L C) : SailsAt w ao N S := by
  intro k hk
  obtain ⟨g, rfl, _, _⟩ := own_addr h.row (by omega)
  obtain ⟨la, lc, e1, l1, l2, l3⟩ := own_form (h.la k hk)
  obtain ⟨ca, cc, e2, c1, c2, c3⟩ := own_form (h.ca k hk)
  have o1 := h.la k hk
  have o2 := h.ca k hk
  rw [e1] at o1
  rw [e2] at o2
  refine ⟨g, 0, la, lc, ca, cc, rfl, ?_, ?_, ?_, ?_, ?_, ?_, ?_, ?_, pairs_of_own o1, pairs_of_own o2, ⟨l1, l2, l3⟩, ⟨c1, c2, c3⟩⟩
  · rw [Nat.zero_add, own_cell h.row (k * 8) (by omega) rfl, sailCell_0]
  · rw [Nat.zero_add, own_cell h.row (k * 8 + 1) (by omega) rfl, sailCell_1]
  · rw [Nat.zero_add, own_cell h.row (k * 8 + 2) (by omega) rfl, sailCell_2]
  · rw [Nat.zero_add, own_cell h.row (k * 8 + 3) (by omega) rfl, sailCell_3]
  · rw [Nat.zero_add, own_cell h.row (k * 8 + 4) (by omega) rfl, sailCell_4]
  · rw [Nat.zero_add, own_cell h.row (k * 8 + 5) (by omega) rfl, sailCell_5, e1]
  · rw [Nat.zero_add, own_cell h.row (k * 8 + 6) (by omega) rfl, sailCell_6, e2]
  · rw [Nat.zero_add, own_cell h.row (k * 8 + 7) (by omega) rfl, sailCell_7]
theorem OwnSails.nil (w : World) (base : Nat) (S : Nat → Sail) (L C : Nat → Value) : OwnSails w base (.slice none 0 0) 0 S L C :=
  ⟨⟨rfl, .inl ⟨rfl, rfl⟩⟩, fun i hi => by omega, fun i hi => by omega, fun i j hi hj => by omega⟩
end Go.Proofs.YtlelckbeoclhbaaGreat

namespace Go.Proofs.YtlelckbeoclhbaaGreat
open Go.RowKit
def ldC (A B C : Nat → Value) (k : Nat) : List Value := [A k, B k, C k]
def ldRow (A B C : Nat → Value) (N : Nat) : List Value := (List.range (N * 3)).map (recCell 3 (ldC A B C))
def FarV (N : Nat) (A : Nat → Value) : Prop := ∀ i j, i < N → j < N → i ≠ j → ∀ b, (A i).ownBlock = some b → (A j).ownBlock ≠ some b
structure OwnLds (w : World) (base : Nat) (v : Value) (N : Nat) (S : Nat → Load) (A B C : Nat → Value) : Prop where
  row : w.ownsRow base 62 3 v N (ldRow A B C N)
  st : ∀ i, i < N → w.ownsRow base 118 4 (A i) (S i).stn (stayList (S i).st (S i).stn)
  ro : ∀ i, i < N → w.ownsRow base 120 4 (B i) (S i).ron (roomList (S i).ro (S i).ron)
  se : ∀ i, i < N → w.ownsRow base 126 2 (C i) (S i).sen (seatList (S i).se (S i).sen)
  far : FarV N A ∧ FarV N B ∧ FarV N C
section
variable {w w' : World} {base : Nat} {v : Value} {N : Nat} {S : Nat → Load} {A B C : Nat → Value}
theorem OwnLds.below (h : OwnLds w base v N S A B C) (hb : Below w.heap.size w w') : OwnLds w' base v N S A B C :=
  ⟨own_below hb h.row, fun i hi => own_below hb (h.st i hi), fun i hi => own_below hb (h.ro i hi), fun i hi => own_below hb (h.se i hi), h.far⟩
theorem OwnLds.other {T : Nat → Prop} (h : OwnLds w base v N S A B C) (hk : Kept w w' T) (hT : ∀ b, T b → ∃ cs t, w.heap[b]? = some (.cells cs t (0, 0)) ∧ 62 ≠ t ∧ 118 ≠ t ∧ 120 ≠ t ∧ 126 ≠ t) : OwnLds w' base v N S A B C :=
  ⟨hk.own h.row (fun g hg s => by obtain ⟨cs, t, h1, h2, _⟩ := hT g s; exact own_notE h.row h1 h2 g hg rfl), fun i hi => hk.own (h.st i hi) (fun g hg s => by obtain ⟨cs, t, h1, _, h2, _⟩ := hT g s; exact own_notE (h.st i hi) h1 h2 g hg rfl),
    fun i hi => hk.own (h.ro i hi) (fun g hg s => by obtain ⟨cs, t, h1, _, _, h2, _⟩ := hT g s; exact own_notE (h.ro i hi) h1 h2 g hg rfl), fun i hi => hk.own (h.se i hi) (fun g hg s => by obtain ⟨cs, t, h1, _, _, _, h2⟩ := hT g s; exact own_notE (h.se i hi) h1 h2 g hg rfl), h.far⟩
theorem OwnLds.lower {b1 b2 : Nat} (h : OwnLds w b1 v N S A B C) (hb : b2 ≤ b1) : OwnLds w b2 v N S A B C :=
  ⟨own_base h.row hb, fun i hi => own_base (h.st i hi) hb, fun i hi => own_base (h.ro i hi) hb, fun i hi => own_base (h.se i hi) hb, h.far⟩
theorem OwnLds.nil (w : World) (base : Nat) (S : Nat → Load) (A B C : Nat → Value) : OwnLds w base (.slice none 0 0) 0 S A B C :=
  ⟨⟨rfl, .inl ⟨rfl, rfl⟩⟩, fun i hi => by omega, fun i hi => by omega, fun i hi => by omega, fun i j hi => by omega, fun i j hi => by omega, fun i j hi => by omega⟩
theorem OwnLds.is (h : OwnLds w base v N S A B C) {k : Nat} (hk : k < N) : Load.Is w (ldC A B C k) (S k) := by
  obtain ⟨a1, c1, e1, x1, y1, z1⟩ := own_form (h.st k hk)
  obtain ⟨a2, c2, e2, x2, y2, z2⟩ := own_form (h.ro k hk)
  obtain ⟨a3, c3, e3, x3, y3, z3⟩ := own_form (h.se k hk)
  have o1 := h.st k hk
  have o2 := h.ro k hk
  have o3 := h.se k hk
  rw [e1] at o1
  rw [e2] at o2
  rw [e3] at o3
  unfold maxLen at y1 y2 y3
  exact ⟨a1, c1, a2, c2, a3, c3, by unfold ldC; rw [e1, e2, e3], stays_of_own o1, ⟨x1, by omega, z1⟩, rooms_of_own o2, ⟨x2, by omega, z2⟩, seats_of_own o3, ⟨x3, by omega, z3⟩⟩
theorem OwnLds.at {ao : Option Addr} {c : Nat} (h : OwnLds w base (.slice ao N c) N S A B C) : LoadsAt w ao N S := by
  refine ⟨ldC A B C, fun k hk => ?_, fun k hk => h.is hk⟩
  obtain ⟨g, rfl, _, _⟩ := own_addr h.row (by omega)
  refine ⟨g, 0, rfl, fun j hj => ?_⟩
  rw [Nat.zero_add, own_cell h.row (k * 3 + j) (by omega) rfl, recCell_at 3 _ k j hj]
theorem FarV.snoc {A : Nat → Value} {k lim : Nat} {a : Value} (h : FarV k A) (h1 : ∀ i, i < k → ∀ b, (A i).ownBlock = some b → b < lim) (h2 : ∀ b, a.ownBlock = some b → lim ≤ b) : FarV (k + 1) (atV A k a) := fun i j hi hj hne b e1 e2 => by
  by_cases ei : i = k
  · subst ei
    rw [atV_at] at e1
    rw [atV_ne _ _ _ _ (fun h => hne h.symm)] at e2
    have := h1 j (by omega) b e2
    have := h2 b e1
    omega
  · rw [atV_ne _ _ _ _ ei] at e1
    by_cases ej : j = k
    · subst ej
      rw [atV_at] at e2
      have := h1 i (by omega) b e1
      have := h2 b e2
      omega
    · rw [atV_ne _ _ _ _ ej] at e2
      exact h i j (by omega) (by omega) hne b e1 e2
theorem OwnLds.snoc {k : Nat} {v' a b c : Value} {lim : Nat} (h : OwnLds w base v k S A B C) (hlim : ∀ i, i < k → (∀ g, (A i).ownBlock = some g → g < lim) ∧ (∀ g, (B i).ownBlock = some g → g < lim) ∧ (∀ g, (C i).ownBlock = some g → g < lim))
    (h1 : w.ownsRow lim 118 4 a (S k).stn (stayList (S k).st (S k).stn)) (h2 : w.ownsRow lim 120 4 b (S k).ron (roomList (S k).ro (S k).ron)) (h3 : w.ownsRow lim 126 2 c (S k).sen (seatList (S k).se (S k).sen)) (hbl : base ≤ lim) (hg : w.grownBy w' v.ownBlock)
    (ho : w'.ownsRow base 62 3 v' (k + 1) (ldRow A B C k ++ [a, b, c])) : OwnLds w' base v' (k + 1) S (atV A k a) (atV B k b) (atV C k c) := by
  have hk := kept_row hg
  have far : ∀ {t sz n : Nat} {u : Value} {xs : List Value}, w.ownsRow base t sz u n xs → 62 ≠ t → w'.ownsRow base t sz u n xs := fun ho ht => hk.own ho (fun g hg1 hg2 => own_apart h.row ho ht g hg2 hg1)
  refine ⟨?_, fun i hi => ?_, fun i hi => ?_, fun i hi => ?_, h.far.1.snoc (fun i hi => (hlim i hi).1) (fun b e => (h1.lt b e).1), h.far.2.1.snoc (fun i hi => (hlim i hi).2.1) (fun b e => (h2.lt b e).1), h.far.2.2.snoc (fun i hi => (hlim i hi).2.2) (fun b e => (h3.lt b e).1)⟩
  · have e : ldRow (atV A k a) (atV B k b) (atV C k c) (k + 1) = ldRow A B C k ++ [a, b, c] := rec_row_snoc 3 (by decide) (ldC A B C) (ldC (atV A k a) (atV B k b) (atV C k c)) k _ rfl (fun i hi => by unfold ldC; rw [atV_ne _ _ _ _ (by omega), atV_ne _ _ _ _ (by omega), atV_ne _ _ _ _ (by omega)]) (by unfold ldC; rw [atV_at, atV_at, atV_at])
    rw [e]
    exact ho
  · by_cases e : i = k
    · subst e; rw [atV_at]; exact far (own_base h1 hbl) (by decide)
    · rw [atV_ne _ _ _ _ e]; exact far (h.st i (by omega)) (by decide)
  · by_cases e : i = k
    · subst e; rw [atV_at]; exact far (own_base h2 hbl) (by decide)
    · rw [atV_ne _ _ _ _ e]; exact far (h.ro i (by omega)) (by decide)
  · by_cases e : i = k
    · subst e; rw [atV_at]; exact far (own_base h3 hbl) (by decide)
    · rw [atV_ne _ _ _ _ e]; exact far (h.se i (by omega)) (by decide)
end
end Go.Proofs.YtlelckbeoclhbaaGreat

namespace Go.Proofs.YtlelckbeoclhbaaGreat
open Go.RowKit
theorem sailRow_snoc (S : Nat → Sail) (L C : Nat → Value) (k : Nat) (lv cv : Value) :
    (List.range ((k + 1) * 8)).map (sailCell S (atV L k lv) (atV C k cv)) = (List.range (k * 8)).map (sailCell S L C) ++ [.int .i64 (S k).id, .string (S k).fr, .string (S k).dst, .int .i64 (S k).dep, .int .i64 (S k).arr, lv, cv, .int .i64 (S k).most] := by
  rw [show (k + 1) * 8 = k * 8 + 1 + 1 + 1 + 1 + 1 + 1 + 1 + 1 by omega, List.range_succ, List.range_succ, List.range_succ, List.range_succ, List.range_succ, List.range_succ, List.range_succ, List.range_succ]
  simp only [List.map_append, List.map_cons, List.map_nil, List.append_assoc, List.cons_append, List.nil_append]
  rw [sailCell_0, sailCell_1, show k * 8 + 1 + 1 = k * 8 + 2 by omega, sailCell_2, show k * 8 + 2 + 1 = k * 8 + 3 by omega, sailCell_3, show k * 8 + 3 + 1 = k * 8 + 4 by omega, sailCell_4, show k * 8 + 4 + 1 = k * 8 + 5 by omega, sailCell_5, show k * 8 + 5 + 1 = k * 8 + 6 by omega, sailCell_6, show k * 8 + 6 + 1 = k * 8 + 7 by omega, sailCell_7, atV_at, atV_at]
  congr 1
  refine List.map_congr_left fun j hj => ?_
  have hj' : j < k * 8 := by simpa using hj
  unfold sailCell
  rw [atV_ne _ _ _ _ (show j / 8 ≠ k by omega), atV_ne _ _ _ _ (show j / 8 ≠ k by omega)]
theorem OwnSails.snoc {w w' : World} {base k : Nat} {v v' : Value} {S : Nat → Sail} {L C : Nat → Value} {lv cv : Value} {lim : Nat} (h : OwnSails w base v k S L C) (hlim : ∀ i, i < k → (∀ b, (L i).ownBlock = some b → b < lim) ∧ (∀ b, (C i).ownBlock = some b → b < lim))
    (hl : w.ownsRow lim 122 2 lv (S k).la.n (pairRow (S k).la)) (hc : w.ownsRow lim 124 2 cv (S k).ca.n (pairRow (S k).ca)) (hbl : base ≤ lim) (hg : w.grownBy w' v.ownBlock)
    (ho : w'.ownsRow base 54 8 v' (k + 1) ((List.range (k * 8)).map (sailCell S L C) ++ [.int .i64 (S k).id, .string (S k).fr, .string (S k).dst, .int .i64 (S k).dep, .int .i64 (S k).arr, lv, cv, .int .i64 (S k).most])) :
    OwnSails w' base v' (k + 1) S (atV L k lv) (atV C k cv) := by
  have hk := kept_row hg
  refine ⟨by rw [sailRow_snoc]; exact ho, fun i hi => ?_, fun i hi => ?_, fun i j hij hj => ?_⟩
  · by_cases e : i = k
    · subst e; rw [atV_at]; exact hk.own (own_base hl hbl) (fun g hg1 hg2 => own_apart h.row (own_base hl hbl) (by decide) g hg2 hg1)
    · rw [atV_ne _ _ _ _ e]; exact hk.own (h.la i (by omega)) (fun g hg1 hg2 => own_apart h.row (h.la i (by omega)) (by decide) g hg2 hg1)
  · by_cases e : i = k
    · subst e; rw [atV_at]; exact hk.own (own_base hc hbl) (fun g hg1 hg2 => own_apart h.row (own_base hc hbl) (by decide) g hg2 hg1)
    · rw [atV_ne _ _ _ _ e]; exact hk.own (h.ca i (by omega)) (fun g hg1 hg2 => own_apart h.row (h.ca i (by omega)) (by decide) g hg2 hg1)
  · by_cases e : j = k
    · subst e
      rw [atV_at, atV_at, atV_ne _ _ _ _ (by omega), atV_ne _ _ _ _ (by omega)]
      refine ⟨fun b h1 h3 => ?_, fun b h1 h3 => ?_⟩
      · have a := (hlim i hij).1 b h1
        have c := (hl.lt b h3).1
        omega
      · have a := (hlim i hij).2 b h1
        have c := (hc.lt b h3).1
        omega
    · rw [atV_ne _ _ _ _ e, atV_ne _ _ _ _ e, atV_ne _ _ _ _ (by omega), atV_ne _ _ _ _ (by omega)]
      exact h.apart i j hij (by omega)
theorem OwnSails.keptRow {w w' : World} {base base2 k n : Nat} {v lv : Value} {S : Nat → Sail} {L C : Nat → Value} {xs : List Value} (h : OwnSails w base v k S L C) (hl : w.ownsRow base2 62 3 lv n xs) (hg : w.grownBy w' lv.ownBlock) : OwnSails w' base v k S L C := by
  have hk := kept_row hg
  exact ⟨hk.own h.row (fun g h1 h2 => own_apart hl h.row (by decide) g h2 h1), fun i hi => hk.own (h.la i hi) (fun g h1 h2 => own_apart hl (h.la i hi) (by decide) g h2 h1), fun i hi => hk.own (h.ca i hi) (fun g h1 h2 => own_apart hl (h.ca i hi) (by decide) g h2 h1), h.apart⟩
theorem off_at0 {w : World} {g t : Nat} {u0 u1 u2 : Value} (h : w.heap[g]? = some (.cells #[u0, u1, u2] t (0, 0))) (v : Value) : (w.setCell ⟨g, 0, none⟩ v).heap[g]? = some (.cells #[v, u1, u2] t (0, 0)) := by simpa using blk_set h 0 v
theorem off_at1 {w : World} {g t : Nat} {u0 u1 u2 : Value} (h : w.heap[g]? = some (.cells #[u0, u1, u2] t (0, 0))) (v : Value) : (w.setCell ⟨g, 1, none⟩ v).heap[g]? = some (.cells #[u0, v, u2] t (0, 0)) := by simpa using blk_set h 1 v
theorem off_at2 {w : World} {g t : Nat} {u0 u1 u2 : Value} (h : w.heap[g]? = some (.cells #[u0, u1, u2] t (0, 0))) (v : Value) : (w.setCell ⟨g, 2, none⟩ v).heap[g]? = some (.cells #[u0, u1, v] t (0, 0)) := by simpa using blk_set h 2 v
theorem own_blockE {w : World} {base e size n : Nat} {v : Value} {xs : List Value} (h : w.ownsRow base e size v n xs) : ∀ g, v.ownBlock = some g → ∃ cs, w.heap[g]? = some (.cells cs e (0, 0)) := fun g hg => by
  rcases h.2 with ⟨rfl, _⟩ | ⟨g', c, cur, rfl, _, hb, _⟩
  · cases hg
  · simp [Value.ownBlock] at hg
    subst hg
    exact ⟨cur, hb⟩
theorem OwnSails.other {w w' : World} {base : Nat} {v : Value} {N : Nat} {S : Nat → Sail} {L C : Nat → Value} {T : Nat → Prop} (h : OwnSails w base v N S L C) (hk : Kept w w' T) (hT : ∀ b, T b → ∃ cs t, w.heap[b]? = some (.cells cs t (0, 0)) ∧ 54 ≠ t ∧ 122 ≠ t ∧ 124 ≠ t) : OwnSails w' base v N S L C :=
  ⟨hk.own h.row (fun g hg s => by obtain ⟨cs, t, h1, h2, _⟩ := hT g s; exact own_notE h.row h1 h2 g hg rfl), fun i hi => hk.own (h.la i hi) (fun g hg s => by obtain ⟨cs, t, h1, _, h2, _⟩ := hT g s; exact own_notE (h.la i hi) h1 h2 g hg rfl),
    fun i hi => hk.own (h.ca i hi) (fun g hg s => by obtain ⟨cs, t, h1, _, _, h2⟩ := hT g s; exact own_notE (h.ca i hi) h1 h2 g hg rfl), h.apart⟩
structure OwnOff (w : World) (base : Nat) (v1 v2 v3 : Value) (n1 n2 n3 : Nat) (x : Off) (L C A B D E : Nat → Value) : Prop where
  sa : OwnSails w base v1 n1 x.sa L C
  ld : OwnLds w base v2 n2 x.ld A B D
  bk : OwnBks w base v3 n3 x.bk E
section
variable {w w' : World} {base : Nat} {v1 v2 v3 : Value} {n1 n2 n3 : Nat} {x : Off} {L C A B D E : Nat → Value}
theorem OwnOff.below (h : OwnOff w base v1 v2 v3 n1 n2 n3 x L C A B D E) (hb : Below w.heap.size w w') : OwnOff w' base v1 v2 v3 n1 n2 n3 x L C A B D E := ⟨h.sa.below hb, h.ld.below hb, h.bk.below hb⟩
theorem OwnOff.lower {b1 b2 : Nat} (h : OwnOff w b1 v1 v2 v3 n1 n2 n3 x L C A B D E) (hb : b2 ≤ b1) : OwnOff w b2 v1 v2 v3 n1 n2 n3 x L C A B D E := ⟨h.sa.base hb, h.ld.lower hb, h.bk.lower hb⟩
theorem OwnOff.box {g t : Nat} {cs : Array Value} (h : OwnOff w base v1 v2 v3 n1 n2 n3 x L C A B D E) (hk : Kept w w' (fun b => b = g)) (hg : w.heap[g]? = some (.cells cs t (0, 0))) (ht : 54 ≠ t ∧ 122 ≠ t ∧ 124 ≠ t ∧ 62 ≠ t ∧ 118 ≠ t ∧ 120 ≠ t ∧ 126 ≠ t ∧ 72 ≠ t ∧ 3 ≠ t) : OwnOff w' base v1 v2 v3 n1 n2 n3 x L C A B D E :=
  ⟨h.sa.other hk (fun b e => by have e : b = g := e; subst e; exact ⟨cs, t, hg, ht.1, ht.2.1, ht.2.2.1⟩), h.ld.other hk (fun b e => by have e : b = g := e; subst e; exact ⟨cs, t, hg, ht.2.2.2.1, ht.2.2.2.2.1, ht.2.2.2.2.2.1, ht.2.2.2.2.2.2.1⟩), h.bk.other hk (fun b e => by have e : b = g := e; subst e; exact ⟨cs, t, hg, ht.2.2.2.2.2.2.2.1, ht.2.2.2.2.2.2.2.2⟩)⟩
theorem OwnOff.load {v' a b c : Value} {k lim : Nat} (h : OwnOff w base v1 v2 v3 n1 k n3 x L C A B D E) (hlim : ∀ i, i < k → (∀ g, (A i).ownBlock = some g → g < lim) ∧ (∀ g, (B i).ownBlock = some g → g < lim) ∧ (∀ g, (D i).ownBlock = some g → g < lim))
    (h1 : w.ownsRow lim 118 4 a (x.ld k).stn (stayList (x.ld k).st (x.ld k).stn)) (h2 : w.ownsRow lim 120 4 b (x.ld k).ron (roomList (x.ld k).ro (x.ld k).ron)) (h3 : w.ownsRow lim 126 2 c (x.ld k).sen (seatList (x.ld k).se (x.ld k).sen)) (hbl : base ≤ lim) (hg : w.grownBy w' v2.ownBlock)
    (ho : w'.ownsRow base 62 3 v' (k + 1) (ldRow A B D k ++ [a, b, c])) : OwnOff w' base v1 v' v3 n1 (k + 1) n3 x L C (atV A k a) (atV B k b) (atV D k c) E :=
  ⟨h.sa.other (kept_row hg) (fun g e => by obtain ⟨cs, e2⟩ := own_blockE h.ld.row g e; exact ⟨cs, _, e2, by decide, by decide, by decide⟩), h.ld.snoc hlim h1 h2 h3 hbl hg ho, h.bk.other (kept_row hg) (fun g e => by obtain ⟨cs, e2⟩ := own_blockE h.ld.row g e; exact ⟨cs, _, e2, by decide, by decide⟩)⟩
theorem OwnOff.book {v' lv : Value} {k lim : Nat} (h : OwnOff w base v1 v2 v3 n1 n2 k x L C A B D E) (hlim : ∀ i, i < k → ∀ b, (E i).ownBlock = some b → b < lim)
    (hl : w.ownsRow lim 3 1 lv (x.bk k).lgn (intList (x.bk k).lg (x.bk k).lgn)) (hbl : base ≤ lim) (hg : w.grownBy w' v3.ownBlock)
    (ho : w'.ownsRow base 72 13 v' (k + 1) (bkRow x.bk E k ++ bkC x.bk (atV E k lv) k)) : OwnOff w' base v1 v2 v' n1 n2 (k + 1) x L C A B D (atV E k lv) :=
  ⟨h.sa.other (kept_row hg) (fun g e => by obtain ⟨cs, e2⟩ := own_blockE h.bk.row g e; exact ⟨cs, _, e2, by decide, by decide, by decide⟩), h.ld.other (kept_row hg) (fun g e => by obtain ⟨cs, e2⟩ := own_blockE h.bk.row g e; exact ⟨cs, _, e2, by decide, by decide, by decide, by decide⟩), h.bk.snoc hlim hl hbl hg ho⟩
theorem OwnOff.is {a1 a2 a3 : Option Addr} {c1 c2 c3 : Nat} (h : OwnOff w base (.slice a1 x.san c1) (.slice a2 x.ldn c2) (.slice a3 x.bkn c3) x.san x.ldn x.bkn x L C A B D E) : Off.Is w [.slice a1 x.san c1, .slice a2 x.ldn c2, .slice a3 x.bkn c3] x := by
  obtain ⟨_, _, e1, p1, q1, r1⟩ := own_form h.sa.row
  obtain ⟨_, _, e2, p2, q2, r2⟩ := own_form h.ld.row
  obtain ⟨_, _, e3, p3, q3, r3⟩ := own_form h.bk.row
  simp only [Value.slice.injEq] at e1 e2 e3
  obtain ⟨rfl, _, rfl⟩ := e1
  obtain ⟨rfl, _, rfl⟩ := e2
  obtain ⟨rfl, _, rfl⟩ := e3
  unfold maxLen at q1 q2 q3
  exact ⟨a1, c1, a2, c2, a3, c3, rfl, h.sa.at, ⟨p1, by omega, r1⟩, h.ld.at, ⟨p2, by omega, r2⟩, h.bk.at, ⟨p3, by omega, r3⟩⟩
end
end Go.Proofs.YtlelckbeoclhbaaGreat
