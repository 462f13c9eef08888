/-
  OWN TEXT: the walk of laws.FnHandles: it returns true, and nothing that was there is written.
-/
import Derived.Test.YtclcjnbjpelcjaaDrawI
import Derived.Test.YtclcjnbjpelcjaaImplPut
import Derived.Test.YtclcjnbjpelcjaaImplDrop
import Derived.Deep.DeepCutAuto
namespace Go.Proofs.Ytclcjnbjpelcjaa
open Go.RowKit

/-- An arena that the law holds in its box: rows of its own, good, and behind the handle there is nothing. -/
structure YSit (w wr : World) (yb hb q : Nat) (a : Int) : Prop where
  ex : ∃ base ya yc n m d1 d2 A U V F, wr.heap[yb]? = some (.cells #[.slice ya n d1, .slice yc m d2] 26 (0, 0)) ∧ wr.ownsRow base 106 3 (.slice ya n d1) n (slotList A U V n) ∧ wr.ownsRow base 3 1 (.slice yc m d2) m (intList F m) ∧ (n ≤ 20 ∧ m ≤ 20) ∧ Named n m A U V F ∧ q < n ∧ a < A q
  hand : wr.heap[hb]? = some (.cells #[.int .i64 (q : Int), .int .i64 a] 30 (0, 0))
  bel : Below w.heap.size w wr
  lo : w.heap.size ≤ yb
theorem YSit.below {w wr w' : World} {yb hb q : Nat} {a : Int} (h : YSit w wr yb hb q a) (hb' : Below wr.heap.size wr w') : YSit w w' yb hb q a := by
  obtain ⟨⟨base, ya, yc, n, m, d1, d2, A, U, V, F, h1, h2, h3, h4⟩, h5, h6, h7⟩ := h
  exact ⟨⟨base, ya, yc, n, m, d1, d2, A, U, V, F, blk_below h1 hb', own_below hb' h2, own_below hb' h3, h4⟩, blk_below h5 hb', after h6 hb', h7⟩
/-- The box gets another arena. -/
theorem YSit.put {w wr : World} {yb hb q base n m d1 d2 : Nat} {a : Int} {ya yc : Option Addr} {A : Nat → Int} {U : Nat → Bool} {V F : Nat → Int} (h : YSit w wr yb hb q a) (h2 : wr.ownsRow base 106 3 (.slice ya n d1) n (slotList A U V n)) (h3 : wr.ownsRow base 3 1 (.slice yc m d2) m (intList F m)) (h5 : n ≤ 20 ∧ m ≤ 20) (h6 : Named n m A U V F) (h7 : q < n ∧ a < A q) :
    YSit w ((wr.setCell ⟨yb, 0, none⟩ (.slice ya n d1)).setCell ⟨yb, 1, none⟩ (.slice yc m d2)) yb hb q a := by
  obtain ⟨⟨_, _, _, _, _, _, _, _, _, _, _, k1, _⟩, k5, k6, k7⟩ := h
  have hne := blk_ne k5 k1 (by decide)
  exact ⟨⟨base, ya, yc, n, m, d1, d2, A, U, V, F, two_set k1 _ _, (kept_two wr yb _ _).own h2 (fun g hg e => row_no_box h2 k1 (by decide) (by rw [hg, e])), (kept_two wr yb _ _).own h3 (fun g hg e => row_no_box h3 k1 (by decide) (by rw [hg, e])), h5, h6, h7⟩, blk_set_other (blk_set_other k5 _ _ hne) _ _ hne, (k6.setCell k7 _).setCell k7 _, k7⟩
theorem put_named {n m : Nat} {A : Nat → Int} {U : Nat → Bool} {V F : Nat → Int} {u : Int} {o : Out × Int × Int} (h : AnswersH (Named n m A U V F) (putOut n m A U V F u) o) (hc : o.1.c = 0) : Named n m A U V F ∧ o = putOut n m A U V F u := by
  by_cases hp : Named n m A U V F
  · exact ⟨hp, h.1 hp⟩
  · rw [h.2 hp] at hc; cases hc
theorem put_smallN {n m : Nat} {A : Nat → Int} {U : Nat → Bool} {V F : Nat → Int} {u : Int} {o : Out × Int × Int} (h : AnswersH (Named n m A U V F) (putOut n m A U V F u) o) (hc : o.1.c = 0) : o.1.n ≤ 20 ∧ o.1.m ≤ 20 :=
  put_small (n := n) (m := m) (A := A) (U := U) (V := V) (F := F) (u := u) ⟨fun g => h.1 ((good_iff n m A U V F).1 g), fun g => h.2 (fun k => g ((good_iff n m A U V F).2 k))⟩ hc

theorem drop_smallN {n m : Nat} {A : Nat → Int} {U : Nat → Bool} {V F : Nat → Int} {x a : Int} {o : Out} (h : Answers (Named n m A U V F) (dropOut n m A U V F x a) o) (hc : o.c = 0) : o.n ≤ 20 ∧ o.m ≤ 20 :=
  drop_small (n := n) (m := m) (A := A) (U := U) (V := V) (F := F) (x := x) (a := a) ⟨fun g => h.1 ((good_iff n m A U V F).1 g), fun g => h.2 (fun k => g ((good_iff n m A U V F).2 k))⟩ hc

set_option maxHeartbeats 6400000 in
set_option maxRecDepth 100000 in
theorem lawHandles (ao : Option Addr) (n c : Nat) (w : World) (hn : n ≤ 1000000000000000) (hx : BytesAt w ao n) :
    Calls Try.prog 3 #[.slice ao n c] w fun e w' => e = .returned (.bool true) ∧ Below w.heap.size w w' := by
  by_cases h20 : n ≤ 1048576
  · have d0 : decide (1048576 < n) = false := by simp; omega
    go_enter Try.func3, Try.ntmps3
    go_wp2_with fail
    refine (drawPut_any ao n c _ hx).mono ?_
    rintro e w1 ⟨⟨s, t, u, rfl, ⟨sa, ta, sn, tm, sc, tc, A, U, V, F, rfl, rfl, hsn, htm, hl1, hl2⟩⟩, hb1⟩
    have f1 := loose_form hl1
    have f2 := loose_form hl2
    have HX1 : Hid (SlotsAt w1 sa sn A U V) := hl1.slots
    have HY1 : Hid (IntsAt w1 ta tm F) := hl2.ints
    have HN1 : Hid (sa = none → sn = 0 ∧ sc = 0) := f1.2.2
    have HN2 : Hid (ta = none → tm = 0 ∧ tc = 0) := f2.2.2
    have htc := f2.1
    have htc2 := f2.2.1
    clear f1 f2 hl1 hl2 hx
    have hbox := heap_alloc_new w1 (.cells #[.slice sa sn sc, .slice ta tm tc] 26)
    have hpx : Below w1.heap.size w1 (w1.alloc (.cells #[.slice sa sn sc, .slice ta tm tc] 26)) := push (Below.refl _ _) _
    have hb2 := after hb1 hpx
    go_upto_region 4 with fail
    generalize w1.alloc (.cells #[.slice sa sn sc, .slice ta tm tc] 26) = w2 at hbox hpx hb2 ⊢
    have HX2 : Hid (SlotsAt w2 sa sn A U V) := HX1.out.below hpx
    have HY2 : Hid (IntsAt w2 ta tm F) := HY1.out.below hpx
    have p0 := blk_cell hbox 0 _ rfl
    have p1 := blk_cell hbox 1 _ rfl
    clear hpx hb1 HX1 HY1
    go_wp2_with fail
    refine (implPut_any sa ta sn tm sc tc A U V F u _ (by omega) (by omega) HN2.out HX2.out HY2.out).mono ?_
    rintro e w3 ⟨a3, b3, d1, d2, o, rfl, hout, hans, hb3⟩
    have hbox3 := blk_below hbox hb3
    have HX3 : Hid (SlotsAt w3 sa sn A U V) := HX2.out.below hb3
    have HY3 : Hid (IntsAt w3 ta tm F) := HY2.out.below hb3
    have HB3 : Hid (Below w.heap.size w w3) := after hb2 hb3
    have HOUT : Hid (OutHeld w3 w2.heap.size (.slice a3 o.1.n d1) (.slice b3 o.1.m d2) o.1) := hout
    have HANS : Hid (AnswersH (Named sn tm A U V F) (putOut sn tm A U V F u) o) := hans
    have hpx3 : Below w3.heap.size w3 ((w3.alloc (.cells #[.slice a3 o.1.n d1, .slice b3 o.1.m d2] 26)).alloc (.cells #[.int .i64 o.2.1, .int .i64 o.2.2] 30)) := push (push (Below.refl _ _) _) _
    have hA4 := blk_alloc (heap_alloc_new w3 (.cells #[.slice a3 o.1.n d1, .slice b3 o.1.m d2] 26)) (.cells #[.int .i64 o.2.1, .int .i64 o.2.2] 30)
    have hH4 := new2 w3 (.cells #[.slice a3 o.1.n d1, .slice b3 o.1.m d2] 26) (.cells #[.int .i64 o.2.1, .int .i64 o.2.2] 30)
    clear hbox hb2 hb3 p0 p1 hout hans HX2 HY2
    go_upto_region 5 with fail
    generalize (w3.alloc (.cells #[.slice a3 o.1.n d1, .slice b3 o.1.m d2] 26)).alloc (.cells #[.int .i64 o.2.1, .int .i64 o.2.2] 30) = w4 at hpx3 hA4 hH4 ⊢
    have hbox4 := blk_below hbox3 hpx3
    have HX4 : Hid (SlotsAt w4 sa sn A U V) := HX3.out.below hpx3
    have HY4 : Hid (IntsAt w4 ta tm F) := HY3.out.below hpx3
    have HOUT4 : Hid (OutHeld w4 w2.heap.size (.slice a3 o.1.n d1) (.slice b3 o.1.m d2) o.1) := ⟨own_below hpx3 HOUT.out.1, own_below hpx3 HOUT.out.2⟩
    have HB4 : Hid (Below w.heap.size w w4) := after HB3.out hpx3
    have p0 := blk_cell hbox4 0 _ rfl
    have p1 := blk_cell hbox4 1 _ rfl
    generalize w3.heap.size = xb at hA4 hH4 ⊢
    clear hbox3 hbox4 hpx3 HX3 HY3 HB3 HOUT
    go_wp2_with fail
    refine (specPut_any sa ta sn tm sc tc A U V F u _ (by omega) (by omega) htc htc2 HN1.out HN2.out HX4.out HY4.out).mono ?_
    rintro e w5 ⟨a5, b5, d3, d4, o', rfl, _, hans5, hb5⟩
    obtain rfl : o' = o := answersH_one (good_iff sn tm A U V F).symm HANS.out hans5
    have hpx5 : Below w5.heap.size w5 ((w5.alloc (.cells #[.slice a5 o'.1.n d3, .slice b5 o'.1.m d4] 26)).alloc (.cells #[.int .i64 o'.2.1, .int .i64 o'.2.2] 30)) := push (push (Below.refl _ _) _) _
    have hb45 := after hb5 hpx5
    go_upto_region 6 with fail
    generalize (w5.alloc (.cells #[.slice a5 o'.1.n d3, .slice b5 o'.1.m d4] 26)).alloc (.cells #[.int .i64 o'.2.1, .int .i64 o'.2.2] 30) = w6 at hb45 ⊢
    have hA6 := blk_below hA4 hb45
    have hH6 := blk_below hH4 hb45
    have HB6 : Hid (Below w.heap.size w w6) := after HB4.out hb45
    have HO1 : Hid (w6.ownsRow w2.heap.size 106 3 (.slice a3 o'.1.n d1) o'.1.n (slotList o'.1.A o'.1.U o'.1.V o'.1.n)) := own_below hb45 HOUT4.out.1
    have HO2 : Hid (w6.ownsRow w2.heap.size 3 1 (.slice b3 o'.1.m d2) o'.1.m (intList o'.1.F o'.1.m)) := own_below hb45 HOUT4.out.2
    clear hpx5 hb5 hb45 hA4 hH4 HX4 HY4 HB4 HOUT4 hans5 p0 p1
    by_cases hc0 : o'.1.c = 0
    · obtain ⟨hnam, ho⟩ := put_named HANS.out hc0
      have hsm := put_smallN HANS.out hc0
      have hpg := put_good u hnam (by rw [← ho]; exact hc0)
      rw [← ho] at hpg
      obtain ⟨hog, ⟨q, hq, hqn, hqA, hqU, hqV⟩, _⟩ := hpg
      have HOG : Hid (Named o'.1.n o'.1.m o'.1.A o'.1.U o'.1.V o'.1.F) := hog
      have HFT : Hid (faultOf o'.1.n o'.1.A o'.1.U (q : Int) o'.2.2 = 0) := fault_ok hqn hqA hqU
      have HGT : Hid (gotOf o'.1.n o'.1.A o'.1.U o'.1.V (q : Int) o'.2.2 = u) := by unfold Hid gotOf; rw [if_pos HFT.out, Int.toNat_natCast]; exact hqV
      obtain ⟨on, hon⟩ : ∃ z, z = o'.1.n := ⟨_, rfl⟩
      obtain ⟨om, hom⟩ : ∃ z, z = o'.1.m := ⟨_, rfl⟩
      obtain ⟨oA, hoA⟩ : ∃ z, z = o'.1.A := ⟨_, rfl⟩
      obtain ⟨oU, hoU⟩ : ∃ z, z = o'.1.U := ⟨_, rfl⟩
      obtain ⟨oV, hoV⟩ : ∃ z, z = o'.1.V := ⟨_, rfl⟩
      obtain ⟨oF, hoF⟩ : ∃ z, z = o'.1.F := ⟨_, rfl⟩
      obtain ⟨oa, hoa⟩ : ∃ z, z = o'.2.2 := ⟨_, rfl⟩
      rw [← hon, ← hom] at hsm
      rw [← hon, ← hom, ← hoA, ← hoU, ← hoV, ← hoF] at HOG
      rw [← hon, ← hoA, ← hoU, ← hoa] at HFT
      rw [← hon, ← hoA, ← hoU, ← hoV, ← hoa] at HGT
      rw [← hon, ← hoA, ← hoU, ← hoV] at HO1
      rw [← hom, ← hoF] at HO2
      rw [← hon, ← hom] at hA6
      rw [hq, ← hoa] at hH6
      rw [hc0, hq, ← hoa, ← hon, ← hom]
      clear hon hom hoA hoU hoV hoF hoa hog hqn hqA hqU hqV hq ho hnam hc0 HANS
      have p0 := blk_cell hA6 0 _ rfl
      have p1 := blk_cell hA6 1 _ rfl
      have v0 := blk_cell hH6 0 _ rfl
      have v1 := blk_cell hH6 1 _ rfl
      obtain ⟨_, _, eb3, _, _, hnb3⟩ := own_form HO2.out
      cases eb3
      have HNB : Hid (b3 = none → om = 0 ∧ d2 = 0) := hnb3
      clear hnb3
      go_wp2_with fail
      refine (implGet_any a3 b3 on om d1 d2 oA oU oV oF (q : Int) oa _ (by omega) (by omega) HNB.out (own_slots HO1.out) (own_ints HO2.out)).mono ?_
      rintro e w7 ⟨r, cg, rfl, hg1, _, hb7⟩
      obtain ⟨rfl, rfl⟩ := hg1 HOG.out
      rw [HGT.out, HFT.out]
      have hA7 := blk_below hA6 hb7
      have hH7 := blk_below hH6 hb7
      have HB7 : Hid (Below w.heap.size w w7) := after HB6.out hb7
      have HO17 : Hid (SlotsAt w7 a3 on oA oU oV) := own_slots (own_below hb7 HO1.out)
      have HO27 : Hid (IntsAt w7 b3 om oF) := own_ints (own_below hb7 HO2.out)
      clear hg1 hb7 hA6 hH6 HB6 p0 p1 v0 v1 HO1 HO2
      have p0 := blk_cell hA7 0 _ rfl
      have p1 := blk_cell hA7 1 _ rfl
      have v0 := blk_cell hH7 0 _ rfl
      have v1 := blk_cell hH7 1 _ rfl
      go_wp2_with fail
      refine (implDrop_any a3 b3 on om d1 d2 oA oU oV oF (q : Int) oa _ (by omega) (by omega) HNB.out HO17.out HO27.out).mono ?_
      rintro e w8 ⟨a8, b8, d5, d6, z, rfl, hz, hansz, hb8⟩
      have hdg := drop_good HOG.out HFT.out
      rw [← hansz.1 HOG.out] at hdg
      obtain ⟨hzc, hzg, q', hqq, hqn, hqa⟩ := hdg
      obtain rfl : q = q' := by omega
      have hzs := drop_smallN hansz hzc
      have hpx8 : Below w8.heap.size w8 (w8.alloc (.cells #[.slice a8 z.n d5, .slice b8 z.m d6] 26)) := push (Below.refl _ _) _
      have hbY := heap_alloc_new w8 (.cells #[.slice a8 z.n d5, .slice b8 z.m d6] 26)
      have hY : YSit w (w8.alloc (.cells #[.slice a8 z.n d5, .slice b8 z.m d6] 26)) w8.heap.size (xb + 1) q oa :=
        ⟨⟨_, a8, b8, z.n, z.m, d5, d6, z.A, z.U, z.V, z.F, hbY, own_below hpx8 hz.1, own_below hpx8 hz.2, hzs, hzg, hqn, hqa⟩, blk_below (blk_below hH7 hb8) hpx8, after (after HB7.out hb8) hpx8, (after HB7.out hb8).size⟩
      rw [hzc]
      clear hansz hzg hqq hqn hqa hz hb8 hpx8 hbY hA7 hH7 HB7 HO17 HO27 p0 p1 v0 v1 hzc HNB HOG HFT HGT
      go_upto_region 12 with fail
      generalize w8.alloc (.cells #[.slice a8 z.n d5, .slice b8 z.m d6] 26) = w9 at hY ⊢
      generalize w8.heap.size = yb at hY ⊢
      go_wp2
      go_loopw [15, 16, 17, 18, 19, 20] (fun i _ _ _ _ _ wr => ∃ j : Nat, j ≤ 4 ∧ i = .int .i64 j ∧ YSit w wr yb (xb + 1) q oa) (fun i _ _ _ _ _ _ => 4 - (intOf i).toNat)
      case atStart => exact ⟨0, by omega, rfl, hY⟩
      case round =>
        obtain ⟨j, hj, rfl, hY⟩ := hrel
        by_cases hlt : j < 4
        · have dj : decide ((j : Int) < 4) = true := by simp; omega
          have HY : Hid (YSit w wr yb (xb + 1) q oa) := hY
          obtain ⟨⟨base, ya, yc, n', m', e1, e2, A', U', V', F', k1, k2, k3, k5, k6, k7, k8⟩, k9, k10, k11⟩ := hY
          obtain ⟨_, _, eyc, _, _, hnyc⟩ := own_form k3
          cases eyc
          have HNY : Hid (yc = none → m' = 0 ∧ e2 = 0) := hnyc
          have HS : Hid (SlotsAt wr ya n' A' U' V') := own_slots k2
          have HI : Hid (IntsAt wr yc m' F') := own_ints k3
          have HNM : Hid (Named n' m' A' U' V' F') := k6
          have HF3 : Hid (faultOf n' A' U' (q : Int) oa = 3) := fault_old k7 (by omega)
          have HQ : Hid (q < n' ∧ oa < A' q) := ⟨k7, k8⟩
          have p0 := blk_cell k1 0 _ rfl
          have p1 := blk_cell k1 1 _ rfl
          have v0 := blk_cell k9 0 _ rfl
          have v1 := blk_cell k9 1 _ rfl
          have HK1 : Hid (wr.heap[yb]? = some (.cells #[.slice ya n' e1, .slice yc m' e2] 26 (0, 0))) := k1
          clear hnyc k1 k2 k3 k6 k7 k8 k9 k10 k11
          go_wp2_with fail
          refine (implGet_any ya yc n' m' e1 e2 A' U' V' F' (q : Int) oa _ (by omega) (by omega) HNY.out HS.out HI.out).mono ?_
          rintro e w11 ⟨r, cg, rfl, hg1, _, hb11⟩
          obtain ⟨rfl, rfl⟩ := hg1 HNM.out
          rw [HF3.out]
          have hk11 := blk_below HK1.out hb11
          have HY11 : Hid (YSit w w11 yb (xb + 1) q oa) := HY.out.below hb11
          have HS11 : Hid (SlotsAt w11 ya n' A' U' V') := HS.out.below hb11
          have HI11 : Hid (IntsAt w11 yc m' F') := HI.out.below hb11
          clear hg1 hb11 p0 p1 v0 v1 HK1 HY HS HI HF3
          have p0 := blk_cell hk11 0 _ rfl
          have p1 := blk_cell hk11 1 _ rfl
          go_wp2_with fail
          refine (implPut_any ya yc n' m' e1 e2 A' U' V' F' (j : Int) _ (by omega) (by omega) HNY.out HS11.out HI11.out).mono ?_
          rintro e w12 ⟨a12, b12, d7, d8, o2, rfl, hout, hans, hb12⟩
          have ho2 := hans.1 HNM.out
          have hcd : o2.1.c = 0 ∨ o2.1.c = 2 := by rw [ho2]; exact put_codes _ _ _ _ _ _ _
          have HY12 : Hid (YSit w w12 yb (xb + 1) q oa) := HY11.out.below hb12
          have HAN : Hid (AnswersH (Named n' m' A' U' V' F') (putOut n' m' A' U' V' F' (j : Int)) o2) := hans
          have HO12 : Hid (OutHeld w12 w11.heap.size (.slice a12 o2.1.n d7) (.slice b12 o2.1.m d8) o2.1) := hout
          clear hk11 hb12 p0 p1 HY11 HS11 HI11 hans hout
          rcases hcd with hc | hc
          · have hsm2 := put_smallN HAN.out hc
            have hpg := put_good (j : Int) HNM.out (by rw [← ho2]; exact hc)
            rw [← ho2] at hpg
            have HPN : Hid (Named o2.1.n o2.1.m o2.1.A o2.1.U o2.1.V o2.1.F) := hpg.1
            have HPQ : Hid (q < o2.1.n ∧ oa < o2.1.A q) := hpg.2.2 q oa HQ.out.1 HQ.out.2
            rw [hc]
            clear hpg ho2
            have hpx : Below w12.heap.size w12 ((w12.alloc (.cells #[.slice a12 o2.1.n d7, .slice b12 o2.1.m d8] 26)).alloc (.cells #[.int .i64 o2.2.1, .int .i64 o2.2.2] 30)) := push (push (Below.refl _ _) _) _
            have hA13 := blk_alloc (heap_alloc_new w12 (.cells #[.slice a12 o2.1.n d7, .slice b12 o2.1.m d8] 26)) (.cells #[.int .i64 o2.2.1, .int .i64 o2.2.2] 30)
            go_upto_region 21 with fail
            generalize (w12.alloc (.cells #[.slice a12 o2.1.n d7, .slice b12 o2.1.m d8] 26)).alloc (.cells #[.int .i64 o2.2.1, .int .i64 o2.2.2] 30) = W13 at hpx hA13 ⊢
            have HY13 : Hid (YSit w W13 yb (xb + 1) q oa) := HY12.out.below hpx
            have HP13 : Hid (YSit w ((W13.setCell ⟨yb, 0, none⟩ (.slice a12 o2.1.n d7)).setCell ⟨yb, 1, none⟩ (.slice b12 o2.1.m d8)) yb (xb + 1) q oa) := HY13.out.put (own_below hpx HO12.out.1) (own_below hpx HO12.out.2) hsm2 HPN.out HPQ.out
            obtain ⟨_, _, _, _, _, _, _, _, _, _, _, hyb, _⟩ := HY13.out.ex
            have z0 := blk_cell hA13 0 _ rfl
            have z1 := blk_cell hA13 1 _ rfl
            have o0 := blk_cell hyb 0 _ rfl
            have o1 := blk_cell hyb 1 _ rfl
            have f0 := blk_free hyb 0
            have f1 := blk_free hyb 1
            have hwj : IntKind.i64.wrap ((j : Int) + 1) = ((j + 1 : Nat) : Int) := by rw [IntKind.wrap_i64]; omega
            clear hyb hA13 hpx HY12 HY13 HO12
            go_wp2
            go_roundw
            case rel => exact ⟨j + 1, by omega, by go_num, HP13.out⟩
            case measure => simp [intOf]; omega
          · rw [hc]
            go_wp2
            go_ret
            exact ⟨rfl, (HY12.out.below (push (push (Below.refl _ _) _) _)).bel⟩
        · obtain rfl : j = 4 := by omega
          go_wp2
          go_ret
          exact ⟨rfl, hY.bel⟩
    · have e0 : (o'.1.c == 0) = false := by simpa using hc0
      clear hc0
      go_wp2
      go_ret
      exact ⟨rfl, HB6.out⟩
  · have d0 : decide (1048576 < n) = true := by simp; omega
    go_enter Try.func3, Try.ntmps3
    go_wp2
    go_ret
    exact ⟨rfl, Below.refl _ _⟩

end Go.Proofs.Ytclcjnbjpelcjaa
