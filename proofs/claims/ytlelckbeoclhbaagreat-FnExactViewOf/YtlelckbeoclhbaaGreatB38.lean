/-
  OWN TEXT: MarkOff, LawVw, Views, ViewD.
-/
import Derived.Deep.RegionHeld3
import Derived.ProofKit
import Derived.OpenShut
import Derived.ChangeOld
import Derived.SizedLaws
import Derived.Deep.Slices
import Derived.Deep.Strs
import Derived.Lib.SmallJoins
import Derived.Test.YtlelckbeoclhbaaGreatRows
import Derived.Test.YtlelckbeoclhbaaGreatB34
import Derived.Test.YtlelckbeoclhbaaGreatB35
import Derived.Test.YtlelckbeoclhbaaGreatB08
import Derived.Test.YtlelckbeoclhbaaGreatB10
import Derived.Test.YtlelckbeoclhbaaGreatB37
import Derived.Test.YtlelckbeoclhbaaGreatB30
import Derived.Test.YtlelckbeoclhbaaGreatB33
import Derived.Test.YtlelckbeoclhbaaGreatB00
set_option maxHeartbeats 12800000
set_option maxRecDepth 100000
namespace Go.Proofs.YtlelckbeoclhbaaGreat
open Go.RowKit
theorem markOffice_own (cs : List Value) (x : Off) (lo hi : Nat) (w : World) (hs : Off.Short x 1048576) (ho : Off.In w lo hi cs x) (hh : hi ≤ w.heap.size) :
    Calls Tryz.prog 10 #[.agg cs.toArray, .int .i64 1] w fun e w' => (∃ k : Nat, e = .returned (.int .i64 k)) ∧ Kept w w' (fun b => lo ≤ b ∧ b < hi) := by
  obtain ⟨m1, m2, gsa, l, c, gld, C, gbk, E, rfl, hm, h1, h2, h3⟩ := ho
  obtain ⟨⟨n1, s1⟩, ⟨n2, s2⟩, ⟨n3, s3⟩⟩ := hs
  have hb0 : Below w.heap.size w (w.alloc (.cells #[.slice (some ⟨gsa, 0, none⟩) x.san x.san, .slice (some ⟨gld, 0, none⟩) x.ldn x.ldn, .slice (some ⟨gbk, 0, none⟩) x.bkn x.bkn] 39)) := push (Below.refl _ _) _
  have bO := heap_alloc_new w (.cells #[.slice (some ⟨gsa, 0, none⟩) x.san x.san, .slice (some ⟨gld, 0, none⟩) x.ldn x.ldn, .slice (some ⟨gbk, 0, none⟩) x.bkn x.bkn] 39)
  have hM := h1.made.mark n1 (fun i hi => (s1 i hi).2.2.1) (fun i hi => (s1 i hi).2.2.2)
  have HL : Hid (∀ i, i < x.san → (x.sa i).la.n ≤ 1048576) := fun i hi => (s1 i hi).2.2.1
  have HC : Hid (∀ i, i < x.san → (x.sa i).ca.n ≤ 1048576) := fun i hi => (s1 i hi).2.2.2
  have HLH : Hid (∀ i, i < x.san → c i < m1) := fun i hi => (h1.lh i hi).2
  have gl := h1.made.lo
  have gh := h1.gh
  have H2 : Hid (LoadsTo w x.ldn m1 m2 gld x.ldn x.ld C) := h2
  have H3 : Hid (BooksTo w x.bkn m2 hi gbk x.bkn x.bk E) := h3
  have HM : Hid (MarkIs w lo gsa x.san (fun i => (x.sa i).la.n) (fun i => (x.sa i).ca.n) l c) := hM
  have HS2 : Hid (LoadsShort x.ldn x.ld 1048576) := s2
  have HS3 : Hid (BooksShort x.bkn x.bk 1048576) := s3
  clear h1 h2 h3 s1 s2 s3 hM
  show Calls Tryz.prog 10 #[.agg #[.slice (some ⟨gsa, 0, none⟩) x.san x.san, .slice (some ⟨gld, 0, none⟩) x.ldn x.ldn, .slice (some ⟨gbk, 0, none⟩) x.bkn x.bkn], .int .i64 1] w _
  go_enter Tryz.func10, Tryz.ntmps10
  go_wp2_with fail
  generalize w.alloc (.cells #[.slice (some ⟨gsa, 0, none⟩) x.san x.san, .slice (some ⟨gld, 0, none⟩) x.ldn x.ldn, .slice (some ⟨gbk, 0, none⟩) x.bkn x.bkn] 39) = V0 at hb0 bO ⊢
  refine (markSailingS_own gsa x.san m1 lo 1 _ _ l c V0 n1 (by omega) HL.out HC.out gh HLH.out (HM.out.below hb0)).mono ?_
  rintro e V1 ⟨⟨k1, hk1, rfl⟩, kp1⟩
  have kq1 : Kept w V1 (fun b => lo ≤ b ∧ b < m1) := (Kept.of_below hb0).trans (kp1.mono (fun b e => by have e : gsa ≤ b ∧ b < m1 := e; exact ⟨by omega, e.2⟩))
  have bO1 := kp1.blk bO (by omega)
  have q1 := blk_cell bO1 1 _ rfl
  go_wp2_with fail
  refine (markLoadS_own gld x.ldn m1 m2 k1 x.ld C V1 n2 hk1 HS2.out (H2.out.kept kq1 (fun b e => by omega))).mono ?_
  rintro e V2 ⟨⟨k2, hk2, rfl⟩, kp2⟩
  have kq2 : Kept w V2 (fun b => lo ≤ b ∧ b < m2) := (kq1.mono (fun b e => by have e : lo ≤ b ∧ b < m1 := e; exact ⟨by omega, by omega⟩)).trans (kp2.mono (fun b e => by have e : m1 ≤ b ∧ b < m2 := e; exact ⟨by omega, by omega⟩))
  have bO2 := kp2.blk bO1 (by omega)
  have q2 := blk_cell bO2 2 _ rfl
  clear q1 bO1 kq1 kp1 kp2 bO
  go_wp2_with fail
  refine (markBookingS_own gbk x.bkn m2 hi k2 x.bk E V2 n3 hk2 HS3.out (H3.out.kept kq2 (fun b e => by omega))).mono ?_
  rintro e V3 ⟨⟨k3, rfl⟩, kp3⟩
  have kq3 : Kept w V3 (fun b => lo ≤ b ∧ b < hi) := (kq2.mono (fun b e => by have e : lo ≤ b ∧ b < m2 := e; exact ⟨by omega, by omega⟩)).trans (kp3.mono (fun b e => by have e : m2 ≤ b ∧ b < hi := e; exact ⟨by omega, by omega⟩))
  go_wp2
  go_ret
  exact ⟨⟨k3, rfl⟩, kq3⟩
end Go.Proofs.YtlelckbeoclhbaaGreat

namespace Go.Proofs.YtlelckbeoclhbaaGreat
open Go.RowKit Go.Shelf Classical
section
variable {w w' : World} {base lim : Nat} {V : ViewW} {ab ar al aq ap : Option Addr} {cb cr cl cq cp nb n1 n2 n3 n4 : Nat} {E R L Q : Nat → Value}
theorem ownView_at' (h : OwnView w base lim V (.slice ab nb cb) (.slice ar n1 cr) (.slice al n2 cl) (.slice aq n3 cq) (.slice ap n4 cp) E R L Q) : ViewAt w ab ar al aq ap V := by
  obtain ⟨ab', cb', ar', cr', al', cl', aq', cq', ap', cp', e1, e2, e3, e4, e5, hA⟩ := h.form
  cases e1; cases e2; cases e3; cases e4; cases e5
  exact hA
theorem ownView_at (h : OwnView w base lim V (.slice ab V.bn cb) (.slice ar V.N cr) (.slice al V.N cl) (.slice aq V.N cq) (.slice ap V.N cp) E R L Q) : ViewAt w ab ar al aq ap V := ownView_at' h
theorem vwB_not {vb vr vl vq vp : Value} {g : Nat} {cs : Array Value} (h : OwnView w base lim V vb vr vl vq vp E R L Q) (hb : w.heap[g]? = some (.cells cs 33 (0, 0))) : ∀ b, VwB V vb vp E R L Q b → ¬ b = g := by
  rintro b ((e | ⟨i, hi, e⟩) | ⟨i, hi, e⟩ | ⟨i, hi, e⟩ | ⟨i, hi, e⟩ | e)
  · exact own_notE h.bks.row hb (by decide) b e
  · exact own_notE (h.bks.legs i hi) hb (by decide) b e
  · exact own_notE (h.rows.each i hi) hb (by decide) b e
  · exact own_notE (h.lan.each i hi) hb (by decide) b e
  · exact own_notE (h.ber.each i hi) hb (by decide) b e
  · exact own_notE h.peo hb (by decide) b e
end
theorem lawViewOf (cs : List Value) (x : Off) (w : World) (hs : Off.Short x 1000000000000000) (hi : Off.Is w cs x) :
    Calls Tryz.prog 3 #[.agg cs.toArray] w fun e w' => e = .returned (.bool true) ∧ Below w.heap.size w w' := by
  have HI : Hid (Off.Is w cs x) := hi
  obtain ⟨asa, csa, ald, cld, abk, cbk, rfl, h1, s1, h2, s2, h3, s3⟩ := hi
  clear h1 s1 h2 s2 h3 s3
  have HS : Hid (Off.Short x 1000000000000000) := hs
  clear hs
  have HB : Below w.heap.size w (w.alloc (.cells #[.slice asa x.san csa, .slice ald x.ldn cld, .slice abk x.bkn cbk] 26)) := push (Below.refl _ _) _
  have A := heap_alloc_new w (.cells #[.slice asa x.san csa, .slice ald x.ldn cld, .slice abk x.bkn cbk] 26)
  have HAW : Hid (w.heap.size < (w.alloc (.cells #[.slice asa x.san csa, .slice ald x.ldn cld, .slice abk x.bkn cbk] 26)).heap.size) := by show w.heap.size < (w.alloc (.cells #[.slice asa x.san csa, .slice ald x.ldn cld, .slice abk x.bkn cbk] 26)).heap.size; simp
  go_enter Tryz.func3, Tryz.ntmps3
  go_wp2_with fail
  generalize w.alloc (.cells #[.slice asa x.san csa, .slice ald x.ldn cld, .slice abk x.bkn cbk] 26) = wA at HB A HAW ⊢
  refine (szOffice_any [.slice asa x.san csa, .slice ald x.ldn cld, .slice abk x.bkn cbk] x _ HS.out (HI.out.below HB)).mono ?_
  rintro e w1 ⟨r, rfl, hr, hb⟩
  have HS1 : Hid (w.heap.size < w1.heap.size) := Nat.lt_of_lt_of_le HAW.out hb.size
  replace A := blk_below A hb
  replace HB := after HB hb
  clear hb
  rcases hr with rfl | ⟨r0, _, ht⟩
  · go_wp2
    go_ret
    exact ⟨rfl, HB⟩
  have d0 : decide (r < 0) = false := by simpa using r0
  have HT : Hid (Off.Short x 1048576) := ht
  clear ht HS
  obtain ⟨V, hV⟩ : ∃ V, V = viewA x := ⟨_, rfl⟩
  obtain ⟨ok, hok⟩ : ∃ q : Bool, q = decide (OffOk x) := ⟨_, rfl⟩
  have HVS : Hid (VShort V) := by rw [hV]; exact viewA_short HT.out
  have HSP : Hid (∀ cs u, Off.Is u cs x → Calls Tryz.prog 5 #[.agg cs.toArray] u fun e u' => (∃ ab cb ar cr al cl aq cq ap cp, e = .returned (.tuple #[.agg #[.slice ab V.bn cb, .slice ar V.N cr, .slice al V.N cl, .slice aq V.N cq, .slice ap V.N cp], .bool ok]) ∧ ViewAt u' ab ar al aq ap V) ∧ Below u.heap.size u u') := by
    rw [hV, hok]
    rintro _ u ⟨asa, csa, ald, cld, abk, cbk, rfl, h1, s1, h2, s2, h3, s3⟩
    exact specView_raw x asa ald abk csa cld cbk u HT.out h1 h2 h3 s3.1
  have HIM : Hid (∀ cs u, Off.Is u cs x → Calls Tryz.prog 7 #[.agg cs.toArray] u fun e u' => (∃ ab cb ar cr al cl aq cq ap cp E R L Q base lim, u.heap.size ≤ base ∧ e = .returned (.tuple #[.agg #[.slice ab V.bn cb, .slice ar V.N cr, .slice al V.N cl, .slice aq V.N cq, .slice ap V.N cp], .bool ok]) ∧ OwnView u' base lim V (.slice ab V.bn cb) (.slice ar V.N cr) (.slice al V.N cl) (.slice aq V.N cq) (.slice ap V.N cp) E R L Q) ∧ Below u.heap.size u u') := by
    rw [hV, hok]
    rintro _ u ⟨asa, csa, ald, cld, abk, cbk, rfl, h1, s1, h2, s2, h3, s3⟩
    refine (implView_raw x asa ald abk csa cld cbk u HT.out h1 h2 h3 s3.1).mono ?_
    rintro e u' ⟨⟨vb, vr, vl, vq, vp, E, R, L, Q, base, lim, hle, rfl, ho⟩, hb⟩
    obtain ⟨ab, cb, ar, cr, al, cl, aq, cq, ap, cp, rfl, rfl, rfl, rfl, rfl, _⟩ := ho.form
    exact ⟨⟨ab, cb, ar, cr, al, cl, aq, cq, ap, cp, E, R, L, Q, base, lim, hle, rfl, ho⟩, hb⟩
  clear hV hok
  have q0 := blk_cell A 0 _ rfl
  have q1 := blk_cell A 1 _ rfl
  have q2 := blk_cell A 2 _ rfl
  go_wp2_with fail
  refine (toOffice_any [.slice asa x.san csa, .slice ald x.ldn cld, .slice abk x.bkn cbk] x _ HT.out (HI.out.below HB)).mono ?_
  rintro e w2 ⟨cs2, rfl, hin, hb⟩
  clear q0 q1 q2
  replace A := blk_below A hb
  replace HB := after HB hb
  have HS2 : Hid (w1.heap.size ≤ w2.heap.size) := hb.size
  clear hb
  have is2 := hin.is HT.out
  clear hin
  go_wp2_with fail
  refine (HSP.out cs2 _ is2).mono ?_
  rintro e w3 ⟨⟨ab, cb, ar, cr, al, cl, aq, cq, ap, cp, rfl, vS⟩, hb⟩
  clear is2
  have HS3 : Hid (w2.heap.size ≤ w3.heap.size) := hb.size
  replace A := blk_below A hb
  replace HB := after HB hb
  clear hb
  have hb : Below w3.heap.size w3 (w3.alloc (.cells #[.slice ab V.bn cb, .slice ar V.N cr, .slice al V.N cl, .slice aq V.N cq, .slice ap V.N cp] 33)) := push (Below.refl _ _) _
  have X4 := heap_alloc_new w3 (.cells #[.slice ab V.bn cb, .slice ar V.N cr, .slice al V.N cl, .slice aq V.N cq, .slice ap V.N cp] 33)
  have HSB : Hid (w3.heap.size < (w3.alloc (.cells #[.slice ab V.bn cb, .slice ar V.N cr, .slice al V.N cl, .slice aq V.N cq, .slice ap V.N cp] 33)).heap.size) := by show w3.heap.size < (w3.alloc (.cells #[.slice ab V.bn cb, .slice ar V.N cr, .slice al V.N cl, .slice aq V.N cq, .slice ap V.N cp] 33)).heap.size; simp
  replace A := blk_below A hb
  replace HB := after HB hb
  replace vS := vS.below hb
  clear hb
  have q0 := blk_cell A 0 _ rfl
  have q1 := blk_cell A 1 _ rfl
  have q2 := blk_cell A 2 _ rfl
  go_wp2_with fail
  generalize w3.alloc (.cells #[.slice ab V.bn cb, .slice ar V.N cr, .slice al V.N cl, .slice aq V.N cq, .slice ap V.N cp] 33) = wB at A HB X4 vS HSB ⊢
  have B3 : Below wB.heap.size wB wB := Below.refl _ _
  have HVS3 : Hid (ViewAt wB ab ar al aq ap V) := vS
  clear vS
  refine (toOffice_any [.slice asa x.san csa, .slice ald x.ldn cld, .slice abk x.bkn cbk] x _ HT.out (HI.out.below HB)).mono ?_
  rintro e w4 ⟨cs4, rfl, hin4, hb⟩
  clear q0 q1 q2
  have HS4 : Hid (wB.heap.size ≤ w4.heap.size) := hb.size
  replace A := blk_below A hb
  replace HB := after HB hb
  replace X4 := blk_below X4 hb
  replace B3 := after B3 hb
  clear hb
  have HIN4 : Hid (Off.In w4 wB.heap.size w4.heap.size cs4 x) := hin4
  obtain ⟨m1, m2, gsa, l, c, gld, C, gbk, E0, rfl, _, _, _, _⟩ := hin4
  unfold whole
  have IN : Off.In w4 wB.heap.size w4.heap.size [.slice (some ⟨gsa, 0, none⟩) x.san x.san, .slice (some ⟨gld, 0, none⟩) x.ldn x.ldn, .slice (some ⟨gbk, 0, none⟩) x.bkn x.bkn] x := HIN4.out
  clear HIN4
  have hb : Below w4.heap.size w4 (w4.alloc (.cells #[.slice (some ⟨gsa, 0, none⟩) x.san x.san, .slice (some ⟨gld, 0, none⟩) x.ldn x.ldn, .slice (some ⟨gbk, 0, none⟩) x.bkn x.bkn] 39)) := push (Below.refl _ _) _
  have X6 := heap_alloc_new w4 (.cells #[.slice (some ⟨gsa, 0, none⟩) x.san x.san, .slice (some ⟨gld, 0, none⟩) x.ldn x.ldn, .slice (some ⟨gbk, 0, none⟩) x.bkn x.bkn] 39)
  have HS5 : Hid (w4.heap.size < (w4.alloc (.cells #[.slice (some ⟨gsa, 0, none⟩) x.san x.san, .slice (some ⟨gld, 0, none⟩) x.ldn x.ldn, .slice (some ⟨gbk, 0, none⟩) x.bkn x.bkn] 39)).heap.size) := by show w4.heap.size < (w4.alloc (.cells #[.slice (some ⟨gsa, 0, none⟩) x.san x.san, .slice (some ⟨gld, 0, none⟩) x.ldn x.ldn, .slice (some ⟨gbk, 0, none⟩) x.bkn x.bkn] 39)).heap.size; simp
  replace A := blk_below A hb
  replace HB := after HB hb
  replace X4 := blk_below X4 hb
  replace B3 := after B3 hb
  replace IN := IN.below hb
  clear hb
  go_wp2_with fail
  generalize w4.alloc (.cells #[.slice (some ⟨gsa, 0, none⟩) x.san x.san, .slice (some ⟨gld, 0, none⟩) x.ldn x.ldn, .slice (some ⟨gbk, 0, none⟩) x.bkn x.bkn] 39) = w5 at A HB X4 B3 X6 IN HS5 ⊢
  refine (HIM.out [.slice (some ⟨gsa, 0, none⟩) x.san x.san, .slice (some ⟨gld, 0, none⟩) x.ldn x.ldn, .slice (some ⟨gbk, 0, none⟩) x.bkn x.bkn] _ (IN.is HT.out)).mono ?_
  rintro e w6 ⟨⟨abg, cbg, arg, crg, alg, clg, aqg, cqg, apg, cpg, E, R, L, Q, base, lim, hbase, rfl, vG⟩, hb⟩
  have HB65 : Hid (w5.heap.size ≤ w6.heap.size) := hb.size
  have HBS : Hid (w5.heap.size ≤ base) := hbase
  clear hbase
  replace A := blk_below A hb
  replace HB := after HB hb
  replace X4 := blk_below X4 hb
  replace B3 := after B3 hb
  replace IN := IN.below hb
  replace X6 := blk_below X6 hb
  clear hb
  have hb : Below w6.heap.size w6 (w6.alloc (.cells #[.slice abg V.bn cbg, .slice arg V.N crg, .slice alg V.N clg, .slice aqg V.N cqg, .slice apg V.N cpg] 33)) := push (Below.refl _ _) _
  have X7 := heap_alloc_new w6 (.cells #[.slice abg V.bn cbg, .slice arg V.N crg, .slice alg V.N clg, .slice aqg V.N cqg, .slice apg V.N cpg] 33)
  have HS7 : Hid (w6.heap.size < (w6.alloc (.cells #[.slice abg V.bn cbg, .slice arg V.N crg, .slice alg V.N clg, .slice aqg V.N cqg, .slice apg V.N cpg] 33)).heap.size) := by show w6.heap.size < (w6.alloc (.cells #[.slice abg V.bn cbg, .slice arg V.N crg, .slice alg V.N clg, .slice aqg V.N cqg, .slice apg V.N cpg] 33)).heap.size; simp
  replace A := blk_below A hb
  replace HB := after HB hb
  replace X4 := blk_below X4 hb
  replace B3 := after B3 hb
  replace IN := IN.below hb
  replace X6 := blk_below X6 hb
  replace vG := vG.below hb
  clear hb
  have hne : (ok != ok) = false := by simp
  have x0 := blk_cell X7 0 _ rfl
  have x1 := blk_cell X7 1 _ rfl
  have x2 := blk_cell X7 2 _ rfl
  have x3 := blk_cell X7 3 _ rfl
  have x4 := blk_cell X7 4 _ rfl
  have y0 := blk_cell X4 0 _ rfl
  have y1 := blk_cell X4 1 _ rfl
  have y2 := blk_cell X4 2 _ rfl
  have y3 := blk_cell X4 3 _ rfl
  have y4 := blk_cell X4 4 _ rfl
  go_wp2_with fail
  generalize w6.alloc (.cells #[.slice abg V.bn cbg, .slice arg V.N crg, .slice alg V.N clg, .slice aqg V.N cqg, .slice apg V.N cpg] 33) = w7 at A HB X4 B3 X6 IN vG X7 HS7 x0 x1 x2 x3 x4 y0 y1 y2 y3 y4 ⊢
  refine (eqView_same abg arg alg aqg apg ab ar al aq ap cbg crg clg cqg cpg cb cr cl cq cp V _ HVS.out (ownView_at vG) (HVS3.out.below B3)).mono ?_
  rintro e w8 ⟨rfl, hb⟩
  clear x0 x1 x2 x3 x4 y0 y1 y2 y3 y4
  replace A := blk_below A hb
  replace HB := after HB hb
  replace X4 := blk_below X4 hb
  replace B3 := after B3 hb
  replace IN := IN.below hb
  replace X6 := blk_below X6 hb
  replace vG := vG.below hb
  replace X7 := blk_below X7 hb
  clear hb
  go_upto_region 10 with fail
  have KS : Hid (∀ w', Below w8.heap.size w8 w' → ((w'.cell? ⟨w.heap.size, 0, none⟩ = some (.slice asa x.san csa) ∧ w'.cell? ⟨w.heap.size, 1, none⟩ = some (.slice ald x.ldn cld) ∧ w'.cell? ⟨w.heap.size, 2, none⟩ = some (.slice abk x.bkn cbk)) ∧ (w'.cell? ⟨w4.heap.size, 0, none⟩ = some (.slice (some ⟨gsa, 0, none⟩) x.san x.san) ∧ w'.cell? ⟨w4.heap.size, 1, none⟩ = some (.slice (some ⟨gld, 0, none⟩) x.ldn x.ldn) ∧ w'.cell? ⟨w4.heap.size, 2, none⟩ = some (.slice (some ⟨gbk, 0, none⟩) x.bkn x.bkn)))) := fun w' h => by
    have g1 := blk_below A h
    have g2 := blk_below X6 h
    exact ⟨⟨blk_cell g1 0 _ rfl, blk_cell g1 1 _ rfl, blk_cell g1 2 _ rfl⟩, ⟨blk_cell g2 0 _ rfl, blk_cell g2 1 _ rfl, blk_cell g2 2 _ rfl⟩⟩
  have BW : Hid (∀ w', Below w8.heap.size w8 w' → Below w.heap.size w w') := fun w' h => after HB h
  have HIN : Hid (∀ w', Below w8.heap.size w8 w' → Off.Is w' [.slice (some ⟨gsa, 0, none⟩) x.san x.san, .slice (some ⟨gld, 0, none⟩) x.ldn x.ldn, .slice (some ⟨gbk, 0, none⟩) x.bkn x.bkn] x) := fun w' h => (IN.is HT.out).below h
  go_region_held3 (fun w' => (w'.cell? ⟨w.heap.size, 0, none⟩ = some (.slice asa x.san csa) ∧ w'.cell? ⟨w.heap.size, 1, none⟩ = some (.slice ald x.ldn cld) ∧ w'.cell? ⟨w.heap.size, 2, none⟩ = some (.slice abk x.bkn cbk)) ∧ (w'.cell? ⟨w4.heap.size, 0, none⟩ = some (.slice (some ⟨gsa, 0, none⟩) x.san x.san) ∧ w'.cell? ⟨w4.heap.size, 1, none⟩ = some (.slice (some ⟨gld, 0, none⟩) x.ldn x.ldn) ∧ w'.cell? ⟨w4.heap.size, 2, none⟩ = some (.slice (some ⟨gbk, 0, none⟩) x.bkn x.bkn)))
    ((refine KS.out _ ?_; exact (by repeat (first | exact Below.refl _ _ | refine Below.drew ?_ | refine after ?_ hb9 | refine after ?_ hb8))))
    (first | (go_at_call 6; refine Calls.mono (toOffice_any [.slice asa x.san csa, .slice ald x.ldn cld, .slice abk x.bkn cbk] x _ HT.out (HI.out.below (BW.out _ (by repeat (first | exact Below.refl _ _ | refine Below.drew ?_ | refine after ?_ hb9 | refine after ?_ hb8))))) ?_; rintro e wt ⟨cs8, rfl, hin8, hb8⟩) | (go_at_call 9; refine Calls.mono (eqOffice_same [.slice (some ⟨gsa, 0, none⟩) x.san x.san, .slice (some ⟨gld, 0, none⟩) x.ldn x.ldn, .slice (some ⟨gbk, 0, none⟩) x.bkn x.bkn] cs8 x _ HT.out (HIN.out _ (by repeat (first | exact Below.refl _ _ | refine Below.drew ?_ | refine after ?_ hb9 | refine after ?_ hb8))) ((hin8.is HT.out).below (by repeat (first | exact Below.refl _ _ | refine Below.drew ?_ | refine after ?_ hb9 | refine after ?_ hb8)))) ?_; rintro e w9 ⟨rfl, hb9⟩))
  have hb : Below w8.heap.size w8 w9 := (by repeat (first | exact Below.refl _ _ | refine Below.drew ?_ | refine after ?_ hb9 | refine after ?_ hb8))
  clear hin8 hb8 hb9 KS BW HIN
  replace A := blk_below A hb
  replace HB := after HB hb
  replace X4 := blk_below X4 hb
  replace B3 := after B3 hb
  replace IN := IN.below hb
  replace X6 := blk_below X6 hb
  replace vG := vG.below hb
  replace X7 := blk_below X7 hb
  clear hb
  have x0 := blk_cell X6 0 _ rfl
  have x1 := blk_cell X6 1 _ rfl
  have x2 := blk_cell X6 2 _ rfl
  go_wp2_with fail
  refine (markOffice_own [.slice (some ⟨gsa, 0, none⟩) x.san x.san, .slice (some ⟨gld, 0, none⟩) x.ldn x.ldn, .slice (some ⟨gbk, 0, none⟩) x.bkn x.bkn] x wB.heap.size w4.heap.size w9 HT.out IN (by have := blk_lt X6; omega)).mono ?_
  rintro e w10 ⟨⟨k, rfl⟩, kp⟩
  clear x0 x1 x2
  have HS9 : Hid (w.heap.size < wB.heap.size) := by have := HS1.out; have := HS2.out; have := HS3.out; have := HSB.out; show w.heap.size < wB.heap.size; omega
  have HX4 : Hid (w3.heap.size < wB.heap.size) := HSB.out
  have HX7 : Hid (w4.heap.size < w6.heap.size) := by have := HS5.out; have h2 := HB65.out; show w4.heap.size < w6.heap.size; omega
  have HKX : Hid (∀ b, (wB.heap.size ≤ b ∧ b < w4.heap.size) → wB.heap.size ≤ b ∧ b < w4.heap.size) := fun b h => h
  replace A := kp.blk A (fun e => by have := HKX.out _ e; have := HS9.out; omega)
  replace HB := Kept.below HB HB.size kp (fun b e => by have := HKX.out _ e; have := HS9.out; omega)
  replace X4 := kp.blk X4 (fun e => by have := HKX.out _ e; have := HX4.out; omega)
  replace X7 := kp.blk X7 (fun e => by have := HKX.out _ e; have := HX7.out; omega)
  replace B3 := Kept.below B3 B3.size kp (fun b e => (HKX.out _ e).1)
  replace vG := vG.kept kp (fun b e h1 _ => by have := HKX.out _ e; have := HBS.out; have := HS5.out; omega)
  clear kp IN X6
  have dk : decide ((k : Int) < 0) = false := by simp
  have x0 := blk_cell X7 0 _ rfl
  have x1 := blk_cell X7 1 _ rfl
  have x2 := blk_cell X7 2 _ rfl
  have x3 := blk_cell X7 3 _ rfl
  have x4 := blk_cell X7 4 _ rfl
  have y0 := blk_cell X4 0 _ rfl
  have y1 := blk_cell X4 1 _ rfl
  have y2 := blk_cell X4 2 _ rfl
  have y3 := blk_cell X4 3 _ rfl
  have y4 := blk_cell X4 4 _ rfl
  go_wp2_with fail
  refine (eqView_same abg arg alg aqg apg ab ar al aq ap cbg crg clg cqg cpg cb cr cl cq cp V _ HVS.out (ownView_at vG) (HVS3.out.below B3)).mono ?_
  rintro e w11 ⟨rfl, hb⟩
  clear x0 x1 x2 x3 x4 y0 y1 y2 y3 y4
  replace A := blk_below A hb
  replace HB := after HB hb
  replace X4 := blk_below X4 hb
  replace B3 := after B3 hb
  replace X7 := blk_below X7 hb
  replace vG := vG.below hb
  clear hb
  have x0 := blk_cell X7 0 _ rfl
  have x1 := blk_cell X7 1 _ rfl
  have x2 := blk_cell X7 2 _ rfl
  have x3 := blk_cell X7 3 _ rfl
  have x4 := blk_cell X7 4 _ rfl
  go_wp2_with fail
  have HMK : Hid (∀ u, OwnView u base lim V (.slice abg V.bn cbg) (.slice arg V.N crg) (.slice alg V.N clg) (.slice aqg V.N cqg) (.slice apg V.N cpg) E R L Q → Calls Tryz.prog 11 #[.agg #[.slice abg V.bn cbg, .slice arg V.N crg, .slice alg V.N clg, .slice aqg V.N cqg, .slice apg V.N cpg], .int .i64 1] u fun e w' => e = .returned (.int .i64 ((kV V 1 : Nat) : Int)) ∧ OwnView w' base lim (mV V 1) (.slice abg V.bn cbg) (.slice arg V.N crg) (.slice alg V.N clg) (.slice aqg V.N cqg) (.slice apg V.N cpg) E R L Q ∧ Kept u w' (VwB V (.slice abg V.bn cbg) (.slice apg V.N cpg) E R L Q)) := fun u h => markView_own abg arg alg aqg apg cbg crg clg cqg cpg base lim 1 V E R L Q u HVS.out (by decide) h
  have HVB : Hid (∀ b, VwB V (.slice abg V.bn cbg) (.slice apg V.N cpg) E R L Q b → base ≤ b ∧ b < w11.heap.size ∧ b ≠ w6.heap.size) := fun b e => ⟨(vG.blk b e).1, (vG.blk b e).2, fun q => vwB_not vG X7 b e q⟩
  refine (HMK.out _ vG).mono ?_
  rintro e w12 ⟨rfl, vM, kp⟩
  clear x0 x1 x2 x3 x4
  replace A := kp.blk A (fun e => by have := HVB.out _ e; have := HS9.out; have := HS4.out; have := HS5.out; have := HBS.out; omega)
  replace HB := Kept.below HB HB.size kp (fun b e => by have := HVB.out _ e; have := HS9.out; have := HS4.out; have := HS5.out; have := HBS.out; omega)
  replace X4 := kp.blk X4 (fun e => by have := HVB.out _ e; have := HX4.out; have := HS4.out; have := HS5.out; have := HBS.out; omega)
  replace X7 := kp.blk X7 (fun e => (HVB.out _ e).2.2 rfl)
  replace B3 := Kept.below B3 B3.size kp (fun b e => by have := HVB.out _ e; have := HS4.out; have := HS5.out; have := HBS.out; omega)
  clear kp vG HMK HVB
  have vM := ownView_at' vM
  have HHE : Hid (∀ u, ViewAt u abg arg alg aqg apg (mV V 1) → Calls Tryz.prog 12 #[.agg #[.slice abg V.bn cbg, .slice arg V.N crg, .slice alg V.N clg, .slice aqg V.N cqg, .slice apg V.N cpg], .int .i64 1] u fun e w' => e = .returned (.int .i64 ((kV V 1 : Nat) : Int)) ∧ Below u.heap.size u w') := fun u h => heldView_yes abg arg alg aqg apg cbg crg clg cqg cpg 1 V u HVS.out (by decide) h
  have dm : decide (((kV V 1 : Nat) : Int) < 0) = false := by simp
  have x0 := blk_cell X7 0 _ rfl
  have x1 := blk_cell X7 1 _ rfl
  have x2 := blk_cell X7 2 _ rfl
  have x3 := blk_cell X7 3 _ rfl
  have x4 := blk_cell X7 4 _ rfl
  go_wp2_with fail
  refine (HHE.out _ vM).mono ?_
  rintro e w13 ⟨rfl, hb⟩
  clear x0 x1 x2 x3 x4
  replace A := blk_below A hb
  replace HB := after HB hb
  replace X4 := blk_below X4 hb
  replace B3 := after B3 hb
  replace X7 := blk_below X7 hb
  replace vM := vM.below hb
  clear hb
  have q0 := blk_cell A 0 _ rfl
  have q1 := blk_cell A 1 _ rfl
  have q2 := blk_cell A 2 _ rfl
  go_wp2_with fail
  refine (toOffice_any [.slice asa x.san csa, .slice ald x.ldn cld, .slice abk x.bkn cbk] x _ HT.out (HI.out.below HB)).mono ?_
  rintro e w14 ⟨cs14, rfl, hin, hb⟩
  clear q0 q1 q2
  replace A := blk_below A hb
  replace HB := after HB hb
  replace X4 := blk_below X4 hb
  replace B3 := after B3 hb
  replace X7 := blk_below X7 hb
  replace vM := vM.below hb
  clear hb
  have is14 := hin.is HT.out
  clear hin
  go_wp2_with fail
  refine (HIM.out cs14 _ is14).mono ?_
  rintro e w15 ⟨⟨abk, cbk, ark, crk, alk, clk, aqk, cqk, apk, cpk, E2, R2, L2, Q2, base2, lim2, _, rfl, vK⟩, hb⟩
  clear is14
  replace A := blk_below A hb
  replace HB := after HB hb
  replace X4 := blk_below X4 hb
  replace B3 := after B3 hb
  replace X7 := blk_below X7 hb
  replace vM := vM.below hb
  clear hb
  have hb : Below w15.heap.size w15 (w15.alloc (.cells #[.slice abk V.bn cbk, .slice ark V.N crk, .slice alk V.N clk, .slice aqk V.N cqk, .slice apk V.N cpk] 33)) := push (Below.refl _ _) _
  have X12 := heap_alloc_new w15 (.cells #[.slice abk V.bn cbk, .slice ark V.N crk, .slice alk V.N clk, .slice aqk V.N cqk, .slice apk V.N cpk] 33)
  have HS16 : Hid (w15.heap.size < (w15.alloc (.cells #[.slice abk V.bn cbk, .slice ark V.N crk, .slice alk V.N clk, .slice aqk V.N cqk, .slice apk V.N cpk] 33)).heap.size) := by show w15.heap.size < (w15.alloc (.cells #[.slice abk V.bn cbk, .slice ark V.N crk, .slice alk V.N clk, .slice aqk V.N cqk, .slice apk V.N cpk] 33)).heap.size; simp
  replace A := blk_below A hb
  replace HB := after HB hb
  replace X4 := blk_below X4 hb
  replace B3 := after B3 hb
  replace X7 := blk_below X7 hb
  replace vM := vM.below hb
  replace vK := vK.below hb
  clear hb
  have x0 := blk_cell X12 0 _ rfl
  have x1 := blk_cell X12 1 _ rfl
  have x2 := blk_cell X12 2 _ rfl
  have x3 := blk_cell X12 3 _ rfl
  have x4 := blk_cell X12 4 _ rfl
  have y0 := blk_cell X4 0 _ rfl
  have y1 := blk_cell X4 1 _ rfl
  have y2 := blk_cell X4 2 _ rfl
  have y3 := blk_cell X4 3 _ rfl
  have y4 := blk_cell X4 4 _ rfl
  go_wp2_with fail
  generalize w15.alloc (.cells #[.slice abk V.bn cbk, .slice ark V.N crk, .slice alk V.N clk, .slice aqk V.N cqk, .slice apk V.N cpk] 33) = w16 at A HB X4 B3 X7 vM vK X12 HS16 x0 x1 x2 x3 x4 y0 y1 y2 y3 y4 ⊢
  refine (eqView_same abk ark alk aqk apk ab ar al aq ap cbk crk clk cqk cpk cb cr cl cq cp V _ HVS.out (ownView_at vK) (HVS3.out.below B3)).mono ?_
  rintro e w17 ⟨rfl, hb⟩
  clear x0 x1 x2 x3 x4 y0 y1 y2 y3 y4
  replace A := blk_below A hb
  replace HB := after HB hb
  replace X4 := blk_below X4 hb
  replace B3 := after B3 hb
  replace X7 := blk_below X7 hb
  replace vM := vM.below hb
  replace vK := vK.below hb
  clear hb
  have x0 := blk_cell X7 0 _ rfl
  have x1 := blk_cell X7 1 _ rfl
  have x2 := blk_cell X7 2 _ rfl
  have x3 := blk_cell X7 3 _ rfl
  have x4 := blk_cell X7 4 _ rfl
  go_wp2_with fail
  refine (HHE.out _ vM).mono ?_
  rintro e w18 ⟨rfl, hb⟩
  clear x0 x1 x2 x3 x4
  replace A := blk_below A hb
  replace HB := after HB hb
  replace X4 := blk_below X4 hb
  replace B3 := after B3 hb
  replace X7 := blk_below X7 hb
  replace vM := vM.below hb
  clear hb
  go_wp2
  go_ret
  exact ⟨rfl, HB⟩
end Go.Proofs.YtlelckbeoclhbaaGreat

namespace Go.Proofs.YtlelckbeoclhbaaGreat
open Go.ChangeShapes Go.WideShapes Go.ChangeAt Go.RowKit Go.Deep
section
variable {H : Type} {enc : TypeId × Value → H} {P : Program} {w : World} {base : Nat} {spare : Nat → Bool} {held : Bool}
def LenIs (d : DataW H) (n : Nat) : Prop := (d = .nil ∧ n = 0) ∨ ∃ els rest, d = .slice els rest ∧ els.length = n
theorem view_ints {t e fuel : Nat} {v : Value} {x : DataW H × List MemPlace} (ht : P.underlying t = some (.slice e)) (he : P.underlying e = some (.int .i64)) (hc : P.cellsOf e = 1)
    (h : DataW.trod enc P w base spare held fuel t [v] = some x) :
    ∃ ao n cap F, v = .slice ao n cap ∧ n ≤ cap ∧ cap ≤ maxLen ∧ (ao = none → n = 0 ∧ cap = 0) ∧ IntsAt w ao n F ∧ LenIs x.1 n := by
  rcases open_ints ht he hc h with ⟨hcs, hx⟩ | ⟨a, n, cap, zs, hcs, _, hl, hm, hz, hx, hcell, _⟩
  · simp at hcs
    subst hcs
    refine ⟨none, 0, 0, fun _ => 0, rfl, Nat.le_refl _, Nat.zero_le _, fun _ => ⟨rfl, rfl⟩, fun k hk => by omega, .inl ⟨by rw [hx], rfl⟩⟩
  · simp at hcs
    subst hcs
    have hzl : n ≤ zs.length := by rw [hz]; split <;> omega
    refine ⟨some a, n, cap, fun k => zs.getD k 0, rfl, hl, hm, (fun h => by cases h), (fun k hk => ?_), .inr ⟨_, _, by rw [hx], by simp [lits]; omega⟩⟩
    obtain ⟨b, off, rfl, hc2⟩ := ints_at hcell (by omega)
    exact ⟨b, off, rfl, hc2 k (by omega)⟩
theorem view_slots {t e fuel ti tb : Nat} {f0 f1 f2 : Field} {v : Value} {x : DataW H × List MemPlace} (ht : P.underlying t = some (.slice e)) (he : P.underlying e = some (.struct #[f0, f1, f2])) (hc : P.cellsOf e = 3)
    (t0 : f0.type = ti) (t1 : f1.type = tb) (t2 : f2.type = ti) (o0 : f0.offset = 0) (o1 : f1.offset = 1) (o2 : f2.offset = 2)
    (hi : P.underlying ti = some (.int .i64)) (hb : P.underlying tb = some .bool) (ci : P.cellsOf ti = 1) (cb : P.cellsOf tb = 1)
    (h : DataW.trod enc P w base spare held fuel t [v] = some x) :
    ∃ ao n cap A U V, v = .slice ao n cap ∧ n ≤ cap ∧ cap ≤ maxLen ∧ (ao = none → n = 0 ∧ cap = 0) ∧ SlotsAt w ao n A U V ∧ LenIs x.1 n := by
  rcases open_slice ht h with ⟨hcs, hx⟩ | ⟨a, n, cap, m, fl, D, Pl, hcs, _, hl, hm, hmm, hx, hcell⟩
  · simp at hcs
    subst hcs
    refine ⟨none, 0, 0, fun _ => 0, fun _ => false, fun _ => 0, rfl, Nat.le_refl _, Nat.zero_le _, fun _ => ⟨rfl, rfl⟩, fun k hk => by omega, .inl ⟨by rw [hx], rfl⟩⟩
  · simp at hcs
    subst hcs
    have hnm : n ≤ m := by rw [hmm]; split <;> omega
    by_cases hn0 : n = 0
    · subst hn0
      exact ⟨some a, 0, cap, fun _ => 0, fun _ => false, fun _ => 0, rfl, hl, hm, (fun h => by cases h), (fun k hk => by omega), .inr ⟨_, _, by rw [hx], by simp⟩⟩
    have hspot : a.spot = none := by
      obtain ⟨cs, hcl, _⟩ := hcell 0 (by omega)
      rw [hc] at hcl
      obtain ⟨_, hlen, hget⟩ := World.cells?_some hcl
      have g0 := hget 0 (by omega)
      rw [List.getElem?_eq_getElem (by omega)] at g0
      have := World.cell?_spot g0
      simpa [Addr.add] using this
    obtain ⟨b, off, spot⟩ := a
    simp only at hspot
    subst hspot
    have key : ∀ k, k < n → ∃ (y : Int × Bool × Int), w.cell? ⟨b, off + k * 3, none⟩ = some (.int .i64 y.1) ∧ w.cell? ⟨b, off + k * 3 + 1, none⟩ = some (.bool y.2.1) ∧ w.cell? ⟨b, off + k * 3 + 2, none⟩ = some (.int .i64 y.2.2) := by
      intro k hk
      obtain ⟨cs, hcl, htr⟩ := hcell k (by omega)
      rw [hc] at hcl
      obtain ⟨_, hlen, hget⟩ := World.cells?_some hcl
      obtain ⟨y0, y1, y2, n', _, _, h0, h1, h2⟩ := trod_struct3 he htr
      rw [t0, o0, ci] at h0
      rw [t1, o1, cb] at h1
      rw [t2, o2, ci] at h2
      match cs, hlen with
      | [p, q, r], _ =>
        obtain ⟨i0, e0, _, _⟩ := DataW.trod_int hi h0
        obtain ⟨i1, e1, _⟩ := DataW.trod_bool hb h1
        obtain ⟨i2, e2, _, _⟩ := DataW.trod_int hi h2
        simp at e0 e1 e2
        subst e0 e1 e2
        have g0 := hget 0 (by omega)
        have g1 := hget 1 (by omega)
        have g2 := hget 2 (by omega)
        simp only [List.getElem?_cons_zero, List.getElem?_cons_succ, Addr.add_lit, Nat.add_zero] at g0 g1 g2
        exact ⟨(i0, i1, i2), g0, g1, g2⟩
    obtain ⟨f, hf⟩ := choose_lt key
    exact ⟨some ⟨b, off, none⟩, n, cap, fun k => (f k).1, fun k => (f k).2.1, fun k => (f k).2.2, rfl, hl, hm, (fun h => by cases h), (fun k hk => ⟨b, off, rfl, hf k hk⟩), .inr ⟨_, _, by rw [hx], by simp⟩⟩
theorem len_reach {t e n : Nat} {d : DataW H} {bytes : Nat} (ht : P.underlying t = some (.slice e)) (hb : P.bytesOf e = bytes) (hd : LenIs d n) (hw : ∀ x ∈ DataW.weights P t d, x ≤ reachBytes) : n * bytes ≤ reachBytes := by
  rcases hd with ⟨_, rfl⟩ | ⟨els, rest, rfl, rfl⟩
  · omega
  · have := hw ((els.length + rest.length) * P.bytesOf e) (by simp [DataW.weights, ht])
    rw [hb] at this
    exact Nat.le_trans (Nat.mul_le_mul_right _ (Nat.le_add_right _ _)) this
end
end Go.Proofs.YtlelckbeoclhbaaGreat

namespace Go.Proofs.YtlelckbeoclhbaaGreat
open Go.ChangeShapes Go.WideShapes Go.ChangeAt Go.RowKit Go.Deep Go.Joins
theorem weightsAll_mem {H : Type} {P : Program} {e : Nat} {x : Nat} : ∀ {l : List (DataW H)} {d : DataW H}, d ∈ l → x ∈ DataW.weights P e d → x ∈ DataW.weightsAll P e l := by
  intro l
  induction l with
  | nil => intro d h; cases h
  | cons a l ih =>
    intro d h hx
    rw [DataW.weightsAll, List.mem_append]
    rcases List.mem_cons.1 h with rfl | h
    · exact .inl hx
    · exact .inr (ih h hx)
section
variable {H : Type} {enc : TypeId × Value → H} {P : Program} {w : World} {base : Nat} {held : Bool}
theorem view_list {t e fuel sz bytes : Nat} {v : Value} {x : DataW H × List MemPlace} (ht : P.underlying t = some (.slice e)) (hc : P.cellsOf e = sz) (h0 : 0 < sz) (hby : P.bytesOf e = bytes)
    (h : DataW.trod enc P w base (fun _ => true) held fuel t [v] = some x) (hw : ∀ y ∈ DataW.weights P t x.1, y ≤ reachBytes) :
    ∃ ao n cap C, v = .slice ao n cap ∧ RecsAt w ao n sz C ∧ n ≤ cap ∧ (ao = none → n = 0 ∧ cap = 0) ∧ cap * bytes ≤ reachBytes ∧
      ∀ k, k < n → (C k).length = sz ∧ ∃ fl z, DataW.trod enc P w base (fun _ => true) held fl e (C k) = some z ∧ ∀ y ∈ DataW.weights P e z.1, y ≤ reachBytes := by
  rcases open_slice ht h with ⟨hcs, hx⟩ | ⟨a, n, cap, m, fl, D, Pl, hcs, _, hl, hm, hmm, hx, hcell⟩
  · simp at hcs
    subst hcs
    exact ⟨none, 0, 0, fun _ => [], rfl, fun k hk => absurd hk (Nat.not_lt_zero _), Nat.le_refl _, fun _ => ⟨rfl, rfl⟩, by omega, fun k hk => absurd hk (Nat.not_lt_zero _)⟩
  · simp at hcs
    subst hcs
    rw [if_pos rfl] at hmm
    subst hmm
    have hcap : m * bytes ≤ reachBytes := by
      have := hw ((n + (m - n)) * P.bytesOf e) (by rw [hx]; simp [DataW.weights, ht])
      rw [hby, show n + (m - n) = m by omega] at this
      exact this
    by_cases hn0 : n = 0
    · subst hn0
      exact ⟨some a, 0, m, fun _ => [], rfl, fun k hk => absurd hk (Nat.not_lt_zero _), hl, (fun h => by cases h), hcap, fun k hk => absurd hk (Nat.not_lt_zero _)⟩
    have hspot : a.spot = none := by
      obtain ⟨cs, hcl, _⟩ := hcell 0 (by omega)
      rw [hc] at hcl
      obtain ⟨_, hlen, hget⟩ := World.cells?_some hcl
      have g0 := hget 0 (by omega)
      rw [List.getElem?_eq_getElem (by omega)] at g0
      have := World.cell?_spot g0
      simpa [Addr.add] using this
    obtain ⟨b, off, spot⟩ := a
    simp only at hspot
    subst hspot
    have key : ∀ k, k < n → ∃ cs : List Value, (cs.length = sz ∧ ∀ j, j < sz → w.cell? ⟨b, off + k * sz + j, none⟩ = some (cs.getD j (.bool false))) ∧ ∃ fl z, DataW.trod enc P w base (fun _ => true) held fl e cs = some z ∧ ∀ y ∈ DataW.weights P e z.1, y ≤ reachBytes := by
      intro k hk
      obtain ⟨cs, hcl, htr⟩ := hcell k (by omega)
      rw [hc] at hcl
      obtain ⟨_, hlen, hget⟩ := World.cells?_some hcl
      refine ⟨cs, ⟨hlen, fun j hj => ?_⟩, _, _, htr, fun y hy => ?_⟩
      · have g := hget j hj
        rw [List.getElem?_eq_getElem (by omega)] at g
        rw [List.getD_eq_getElem?_getD, List.getElem?_eq_getElem (by omega)]
        simp only [Addr.add_lit] at g
        exact g
      · refine hw y ?_
        have h1 : D k ∈ (List.range n).map D := List.mem_map.2 ⟨k, List.mem_range.2 hk, rfl⟩
        have h2 := weightsAll_mem h1 hy
        rw [hx]
        simp [DataW.weights, ht, h2]
    obtain ⟨C, hC⟩ := choose_lt key
    exact ⟨some ⟨b, off, none⟩, n, m, C, rfl, fun k hk => ⟨b, off, rfl, (hC k hk).1.2⟩, hl, (fun h => by cases h), hcap, fun k hk => ⟨(hC k hk).1.1, (hC k hk).2⟩⟩
theorem trod_struct3' {t : TypeId} {f0 f1 f2 : Field} {fuel : Nat} {spare : Nat → Bool} {cs : List Value} {x : DataW H × List MemPlace} (ht : P.underlying t = some (.struct #[f0, f1, f2])) (h : DataW.trod enc P w base spare held fuel t cs = some x) :
    ∃ y0 y1 y2 n, x.1 = .agg [y0.1, y1.1, y2.1] ∧ cs.length = P.cellsOf t ∧ DataW.trod enc P w base spare held n f0.type ((cs.drop f0.offset).take (P.cellsOf f0.type)) = some y0 ∧
      DataW.trod enc P w base spare held n f1.type ((cs.drop f1.offset).take (P.cellsOf f1.type)) = some y1 ∧ DataW.trod enc P w base spare held n f2.type ((cs.drop f2.offset).take (P.cellsOf f2.type)) = some y2 := by
  obtain ⟨xs, n, _, rfl, hl, hlen, hf⟩ := DataW.trod_struct ht h
  match xs, hlen with
  | [y0, y1, y2], _ => exact ⟨y0, y1, y2, n, by simp, hl, by simpa using hf 0 f0 rfl, by simpa using hf 1 f1 rfl, by simpa using hf 2 f2 rfl⟩
end
end Go.Proofs.YtlelckbeoclhbaaGreat
