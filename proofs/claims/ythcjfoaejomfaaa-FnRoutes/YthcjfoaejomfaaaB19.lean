/-
  OWN TEXT: PushI, ConcatI.
-/
import Derived.Deep.LoopGhost
import Derived.Lib.AppendZeros
import Derived.Test.YthcjfoaejomfaaaB18
import Derived.Test.YthcjfoaejomfaaaB13
namespace Go.Proofs.Ythcjfoaejomfaaa
open Go.RowKit

theorem Try.infoRoute : (Try.prog.info? 50).map (fun i => (i.zero, i.size, i.bytes)) = some (some (.agg #[.slice none 0 0, .string ⟨#[]⟩, .int .i64 0]), 3, 48) := by kernel_rfl
theorem rtList_snoc (H : Nat → Rt) (n : Nat) (r : Rt) : rtList (upd H n r) (n + 1) = rtList H n ++ [r.v, .string r.pl, .int .i64 r.t] := by
  unfold rtList
  rw [show (n + 1) * 3 = n * 3 + 1 + 1 + 1 by omega, List.range_succ, List.range_succ, List.range_succ]
  simp only [List.map_append, List.map_cons, List.map_nil, List.append_assoc, List.cons_append, List.nil_append]
  rw [rtCell_0, rtCell_1, show n * 3 + 1 + 1 = n * 3 + 2 by omega, rtCell_2, upd_at]
  congr 1
  refine List.map_congr_left fun j hj => ?_
  have hj' : j < n * 3 := by simpa using hj
  unfold rtCell
  rw [upd_ne _ _ _ (show j / 3 ≠ n by omega)]

/-- All but g is kept, where only g and a block that is new are written. -/
theorem far {w w2 w3 : World} {g g' : Nat} (h : g' = g ∨ w.heap.size ≤ g') (h1 : Kept w w2 (fun b => b = g)) (h2 : Kept w2 w3 (fun b => b = g')) : Kept w w3 (fun b => b = g) :=
  ⟨h2.os.trans h1.os, h2.tape.trans h1.tape, h2.output.trans h1.output, Nat.le_trans h1.size h2.size, fun i hi hne => (h2.block i (Nat.lt_of_lt_of_le hi h1.size) (by omega)).trans (h1.block i hi hne)⟩

/-- A route is put onto the heap. -/
def Pushed (e : Ending) (w w' : World) (base g n : Nat) (H : Nat → Rt) (r : Rt) : Prop :=
  ∃ g' cap' H', e = .returned (.slice (some ⟨g', 0, none⟩) (n + 1) cap') ∧ HeapAt w' base g' (n + 1) cap' H' ∧ Heap RBefR (n + 1) H' ∧ (∀ f, tot f H' (n + 1) = tot f H n + f r) ∧ Kept w w' (fun b => b = g) ∧ (g' = g ∨ w.heap.size ≤ g')

set_option maxHeartbeats 3200000 in
set_option maxRecDepth 100000 in
theorem push_any (base g n cap : Nat) (H : Nat → Rt) (r : Rt) (w : World) (hn : n + 1 ≤ 1048576) (hh : HeapAt w base g n cap H) (hp : Heap RBefR n H) (hr : RtOk w base r) :
    Calls Try.prog 35 #[.slice (some ⟨g, 0, none⟩) n cap, .agg #[r.v, .string r.pl, .int .i64 r.t], .func (.func 33) #[] #[]] w fun e w' => Pushed e w w' base g n H r := by
  obtain ⟨j0, ji, jz0, jz1, jz2⟩ := info_parts Try.infoRoute
  have HP : Hid (Heap RBefR n H) := hp
  have HH : Hid (HeapAt w base g n cap H) := hh
  have HR : Hid (RtOk w base r) := hr
  obtain ⟨ra, rl, er, _⟩ := hr.form
  have ER : Hid (r.v = .slice ra r.ls.length rl) := er
  rw [er]
  have hgl := hh.lt
  clear hp hh hr er
  have hb2 := push (push (Below.refl _ w) (.cells #[.slice ra r.ls.length rl, .string r.pl, .int .i64 r.t] 50)) (.cells #[.slice ra r.ls.length rl, .string r.pl, .int .i64 r.t] 50)
  have HB2 : Hid _ := hb2
  have own2 := (HH.out.below hb2).1
  have hnb : ((w.alloc (.cells #[.slice ra r.ls.length rl, .string r.pl, .int .i64 r.t] 50)).alloc (.cells #[.slice ra r.ls.length rl, .string r.pl, .int .i64 r.t] 50)).heap[w.heap.size + 1]? = some (.cells #[.slice ra r.ls.length rl, .string r.pl, .int .i64 r.t] 50 (0, 0)) := by simpa using heap_alloc_new (w.alloc _) _
  have HNW : Hid (∀ j u, [Value.slice ra r.ls.length rl, .string r.pl, .int .i64 r.t][j]? = some u → ((w.alloc (.cells #[.slice ra r.ls.length rl, .string r.pl, .int .i64 r.t] 50)).alloc (.cells #[.slice ra r.ls.length rl, .string r.pl, .int .i64 r.t] 50)).cell? ((⟨w.heap.size + 1, 0, none⟩ : Addr).add j) = some u) := World.news_of_block hnb
  have OWN2 : Hid _ := own2
  clear hb2 own2 hnb
  go_enter Try.func35, Try.ntmps35
  go_wp2_with (first | (at_builtin; refine wpList_append_lies _ (by rfl) (.tmp 9) (.tmp 11) 62 (by rfl) base 50 j0 (.agg #[.slice none 0 0, .string ⟨#[]⟩, .int .i64 0]) 3 48 Try.underlying62 ji jz0 jz1 jz2 rfl (by decide) _ n (rtList H n) (by rfl) OWN2.out ⟨w.heap.size + 1, 0, none⟩ 1 1 [.slice ra r.ls.length rl, .string r.pl, .int .i64 r.t] (by rfl) (by rfl) HNW.out (by simp [Value.oneCell']) (by decide) (by unfold maxLen; omega) (by omega) (by simp; omega) (w.heap.size + 2) (by simp) ?_; intro g' cap' w2 ho2 hg2 hat hlt2))
  have HN2 : Hid (HeapAt w2 base g' (n + 1) cap' (upd H n r)) := by
    have hk : Kept ((w.alloc (.cells #[.slice ra r.ls.length rl, .string r.pl, .int .i64 r.t] 50)).alloc (.cells #[.slice ra r.ls.length rl, .string r.pl, .int .i64 r.t] 50)) w2 (fun b => b = g) := ⟨hg2.os, hg2.tape, hg2.output, hg2.size, fun i hi hne => hg2.block i hi (fun e => hne (by simpa [Value.ownBlock] using e))⟩
    refine ⟨?_, fun i hi => ?_⟩
    · rw [rtList_snoc, ER.out]; exact ho2
    · by_cases e : i = n
      · subst e; rw [upd_at]; exact rt_kept (HH.out.below HB2.out) hk (HR.out.below HB2.out)
      · rw [upd_ne _ _ _ e]; exact rt_kept (HH.out.below HB2.out) hk ((HH.out.2 i (by omega)).below HB2.out)
  have HK2 : Hid (Kept w w2 (fun b => b = g)) := (Kept.of_below HB2.out).trans ⟨hg2.os, hg2.tape, hg2.output, hg2.size, fun i hi hne => hg2.block i hi (fun e => hne (by simpa [Value.ownBlock] using e))⟩
  have HAT : Hid (g' = g ∨ w.heap.size ≤ g') := by
    rcases hat with h | h
    · left; simpa [Value.ownBlock] using h.symm
    · right; omega
  clear ho2 hg2 hat hlt2 OWN2 HNW HB2 HH HR
  go_loopw [7, 8] (fun s7 _ wr => ∃ (a : Nat) (H' : Nat → Rt), s7 = .int .i64 a ∧ a < n + 1 ∧ HeapAt wr base g' (n + 1) cap' H' ∧ HeapUp RBefR (n + 1) H' a ∧ (∀ f, tot f H' (n + 1) = tot f H n + f r) ∧ Kept w2 wr (fun b => b = g')) (fun s7 _ _ => (intOf s7).toNat)
  case atStart => exact ⟨n, upd H n r, by go_num, by omega, HN2.out, heap_push r HP.out, fun f => by
    show tot f (upd H n r) n + f (upd H n r n) = _
    rw [upd_at, tot_congr f (H := upd H n r) (H' := H) (fun i hi => upd_ne _ _ _ (by omega))], Kept.refl _ _⟩
  case round =>
    obtain ⟨a, H', rfl, han, hh, hup, htot, hk⟩ := hrel
    have HH : Hid (HeapAt wr base g' (n + 1) cap' H') := hh
    have HUP : Hid (HeapUp RBefR (n + 1) H' a) := hup
    have HT : Hid (∀ f, tot f H' (n + 1) = tot f H n + f r) := htot
    have HK : Hid (Kept w2 wr (fun b => b = g')) := hk
    clear hh hup htot hk HN2 HP
    by_cases a0 : a = 0
    · subst a0
      go_wp2
      go_ret
      exact ⟨g', cap', H', rfl, HH.out, up_done HUP.out (.inl rfl), HT.out, far HAT.out HK2.out HK.out, HAT.out⟩
    · have d0 : decide (0 < a) = true := by simp; omega
      have k5 : IntKind.i64.wrap ((a : Int) - 1) = (a : Int) - 1 := by rw [IntKind.wrap_i64]; omega
      obtain ⟨u, hu⟩ : ∃ u : Nat, u = (a - 1) / 2 := ⟨_, rfl⟩
      have HU : Hid (u = (a - 1) / 2) := hu
      have hua : u < a := by omega
      have kq : ((a : Int) - 1) / 2 = (u : Int) := by omega
      clear hu
      have i1 : (a : Int) < (n : Int) + 1 := by omega
      have i2 : (0 : Int) ≤ (a : Int) := by omega
      have i3 : (u : Int) < (n : Int) + 1 := by omega
      have i4 : (0 : Int) ≤ (u : Int) := by omega
      have hgl := HH.out.lt
      obtain ⟨p0', p1', p2'⟩ := HH.out.cells (i := a) (by omega)
      obtain ⟨q0', q1', q2'⟩ := HH.out.cells (i := u) (by omega)
      have p0 : ∀ q : Grown wr, q.val.cell? ⟨g', a * 3, none⟩ = _ := fun q => (q.bel.cell (p := ⟨g', a * 3, none⟩) hgl.1).trans p0'
      have p1 : ∀ q : Grown wr, q.val.cell? ⟨g', a * 3 + 1, none⟩ = _ := fun q => (q.bel.cell (p := ⟨g', a * 3 + 1, none⟩) hgl.1).trans p1'
      have p2 : ∀ q : Grown wr, q.val.cell? ⟨g', a * 3 + 2, none⟩ = _ := fun q => (q.bel.cell (p := ⟨g', a * 3 + 2, none⟩) hgl.1).trans p2'
      have q0 : ∀ q : Grown wr, q.val.cell? ⟨g', u * 3, none⟩ = _ := fun q => (q.bel.cell (p := ⟨g', u * 3, none⟩) hgl.1).trans q0'
      have q1 : ∀ q : Grown wr, q.val.cell? ⟨g', u * 3 + 1, none⟩ = _ := fun q => (q.bel.cell (p := ⟨g', u * 3 + 1, none⟩) hgl.1).trans q1'
      have q2 : ∀ q : Grown wr, q.val.cell? ⟨g', u * 3 + 2, none⟩ = _ := fun q => (q.bel.cell (p := ⟨g', u * 3 + 2, none⟩) hgl.1).trans q2'
      clear p0' p1' p2' q0' q1' q2'
      go_upto_region 5 with fail
      rw [kq]
      clear kq k5
      by_cases hb : RBefR (H' a) (H' u)
      · have HL : Hid (RBefR (H' a) (H' u)) := hb
        clear hb
        refine wp_region_grow (by kernel_rfl) (by kernel_rfl) ?_
        repeat (first | go_big_quiet_skip | (go_big_quiet_want; go_big_quiet_op; first | go_big_quiet_on | (apply Exists.intro; refine ⟨fun q => ?_, ?_⟩; (focus (go_at_call 33; refine grown_call (v := .bool true) ((comesFirst_rt _ _ _ ((HH.out.2 a (by omega)).below q.bel) ((HH.out.2 u (by omega)).below q.bel)).mono ?_); rintro e w4 ⟨⟨bb, rfl, hi⟩, hbb⟩; obtain rfl := hi.2 HL.out; exact ⟨rfl, hbb⟩)); go_big_quiet_on)))
        refine wpQuiet_nil ?_
        rintro _ ⟨q, rfl⟩
        go_upto_region 6 with fail
        have HH4 : Hid (HeapAt q.val base g' (n + 1) cap' H') := HH.out.below q.bel
        have HK4 : Hid (Kept w2 q.val (fun b => b = g')) := HK.out.trans (Kept.of_below q.bel)
        obtain ⟨w4, ew4⟩ : ∃ y, y = q.val := ⟨_, rfl⟩
        rw [← ew4] at HH4 HK4 ⊢
        clear ew4 p0 p1 p2 q0 q1 q2
        obtain ⟨p0, p1, p2⟩ := HH4.out.cells (i := u) (by omega)
        obtain ⟨q0, q1, q2⟩ := HH4.out.cells (i := a) (by omega)
        obtain ⟨ca, cl, ec, _⟩ := (HH4.out.2 u (by omega)).form
        obtain ⟨aa, al, ea, _⟩ := (HH4.out.2 a (by omega)).form
        have EC : Hid ((H' u).v = .slice ca (H' u).ls.length cl) := ec
        have EA : Hid ((H' a).v = .slice aa (H' a).ls.length al) := ea
        rw [ec] at p0
        rw [ea] at q0
        clear ec ea
        have fc0 := HH4.out.free (u * 3)
        have fc1 := HH4.out.free (u * 3 + 1)
        have fc2 := HH4.out.free (u * 3 + 2)
        have fa0 := HH4.out.free (a * 3)
        have fa1 := HH4.out.free (a * 3 + 1)
        have fa2 := HH4.out.free (a * 3 + 2)
        have hca : u ≠ a := by omega
        go_cut [7, 8] (fun s7 s8 wx => s7 = .int .i64 a ∧ s8 = .int .i64 u ∧ wx = (((((((w4.setCell ⟨g', a * 3, none⟩ (.slice ca (H' u).ls.length cl)).setCell ⟨g', a * 3 + 1, none⟩ (.string (H' u).pl)).setCell ⟨g', a * 3 + 2, none⟩ (.int .i64 (H' u).t)).setCell ⟨g', u * 3, none⟩ (.slice aa (H' a).ls.length al)).setCell ⟨g', u * 3 + 1, none⟩ (.string (H' a).pl)).setCell ⟨g', u * 3 + 2, none⟩ (.int .i64 (H' a).t))).drew)
        case first =>
          clear HH HK HUP HT HL HK2 HAT
          go_region
          all_goals (go_wp2; go_meet; exact ⟨rfl, rfl, rfl⟩)
        case rest =>
          obtain ⟨rfl, rfl, hwc⟩ := hcut
          have key := HH4.out.swp (i := a) (j := u) (by omega) (by omega)
          unfold set3 at key
          rw [EC.out, EA.out] at key
          have k2 := (set3_kept w4 g' (a * 3) (H' u).v (.string (H' u).pl) (.int .i64 (H' u).t)).trans (set3_kept _ g' (u * 3) (H' a).v (.string (H' a).pl) (.int .i64 (H' a).t))
          unfold set3 at k2
          rw [EC.out, EA.out] at k2
          have KEY : Hid (HeapAt wc base g' (n + 1) cap' (swp H' a u)) := by rw [hwc]; exact key.below (Below.refl _ _).drew
          have K2 : Hid (Kept w2 wc (fun b => b = g')) := by rw [hwc]; exact (HK4.out.trans k2).trans (Kept.of_below (Below.refl _ _).drew)
          clear key k2 hwc p0 p1 p2 q0 q1 q2 fc0 fc1 fc2 fa0 fa1 fa2
          go_wp2
          go_roundw
          case rel => exact ⟨u, swp H' a u, rfl, by omega, KEY.out, by
            have := HU.out
            subst this
            exact up_step rbef_ord HUP.out (by omega) han HL.out, fun f => by rw [tot_swp f H' (by omega) (by omega) (by omega)]; exact HT.out f, K2.out⟩
          case measure => simp [intOf]; omega
      · have HL : Hid (¬ RBefR (H' a) (H' u)) := hb
        clear hb
        refine wp_region_grow (by kernel_rfl) (by kernel_rfl) ?_
        repeat (first | go_big_quiet_skip | (go_big_quiet_want; go_big_quiet_op; first | go_big_quiet_on | (apply Exists.intro; refine ⟨fun q => ?_, ?_⟩; (focus (go_at_call 33; refine grown_call (v := .bool false) ((comesFirst_rt _ _ _ ((HH.out.2 a (by omega)).below q.bel) ((HH.out.2 u (by omega)).below q.bel)).mono ?_); rintro e w4 ⟨⟨bb, rfl, hi⟩, hbb⟩; obtain rfl := Bool.eq_false_iff.2 (fun e => HL.out (hi.1 e)); exact ⟨rfl, hbb⟩)); go_big_quiet_on)))
        refine wpQuiet_nil ?_
        rintro _ ⟨q, rfl⟩
        go_wp2
        go_ret
        exact ⟨g', cap', H', rfl, HH.out.below q.bel, up_done HUP.out (.inr (by rw [← HU.out]; exact HL.out)), HT.out, far HAT.out HK2.out (HK.out.trans (Kept.of_below q.bel)), HAT.out⟩

end Go.Proofs.Ythcjfoaejomfaaa

namespace Go.Proofs.Ythcjfoaejomfaaa
open Go.RowKit

set_option maxHeartbeats 800000 in
theorem growI_nil (k : Nat) (w : World) (h0 : 0 < k) (hk : k ≤ 4194304) :
    Calls Try.prog 44 #[.slice none 0 0, .int .i64 k] w fun e w' => (∃ v, e = .returned v ∧ w'.ownsRow w.heap.size 3 1 v 0 []) ∧ Below w.heap.size w w' := by
  obtain ⟨j0, ji, jz0, jz1, jz2⟩ := info_parts Try.infoInt
  have hrun := Lib.run_append_nil_zeros (P := Try.prog) w 26 3 26 3 j0 (.int .i64 0) .i64 .i64 Try.underlying26 Try.underlying3 ji jz0 k h0 (by omega) (by omega) (by rw [jz2]; omega)
  have d0 : decide ((k : Int) < 0) = false := by simp
  have d1 : decide (0 < k) = true := by simpa using h0
  go_enter Try.func44, Try.ntmps44
  go_wp2_with (first | (at_builtin; refine Lib.wpList_append_run _ rfl _ _ _ _ rfl _ _ rfl rfl _ _ hrun ?_))
  go_ret
  have hge := grownCap_ge w k 0 3
  refine ⟨⟨_, rfl, rfl, .inr ⟨w.heap.size, _, _, rfl, Nat.le_refl _, heap_alloc_new w _, Nat.zero_le _, grownCap_le_maxLen w k 0 _ (by unfold maxLen; omega), ?_, rfl⟩⟩, (push (Below.refl _ w) _).drew⟩
  rw [Array.size_append, size_zeroCells, size_zeroCells]
  show k * 1 + (_ - k) * 1 = _ * 1
  omega

def cumI (n r : Nat) : Nat := if r = 0 then 0 else if r = 1 then n else n + 1
def partI (ls : List Int) (x : Int) (r : Nat) : List Int := if r = 0 then [] else if r = 1 then ls else ls ++ [x]

set_option maxHeartbeats 3200000 in
set_option maxRecDepth 100000 in
theorem concat_legs (lb qb : Nat) (ha : Option Addr) (n hc : Nat) (ls : List Int) (x : Int) (w : World) (e1 : ls.length = n) (hn : n ≤ 1048576)
    (hlb : w.heap[lb]? = some (.cells #[.slice ha n hc, .slice (some ⟨qb, 0, none⟩) 1 1] 26 (0, 0))) (hx : IntsAt w ha n (getI ls)) (hy : w.cell? ⟨qb, 0, none⟩ = some (.int .i64 x)) (hna : ha = none → n = 0 ∧ hc = 0) :
    Calls Try.prog 36 #[.slice (some ⟨lb, 0, none⟩) 2 2] w fun e w' => (∃ ao' c', e = .returned (.slice ao' (n + 1) c') ∧ w'.ownsRow w.heap.size 3 1 (.slice ao' (n + 1) c') (n + 1) (cellsI (ls ++ [x]))) ∧ Below w.heap.size w w' := by
  obtain ⟨j0, ji, jz0, jz1, jz2⟩ := info_parts Try.infoInt
  have E1 : Hid (ls.length = n) := e1
  have hqb := World.block_lt_of_cell? w _ hy
  have HX : Hid (IntsAt w ha ls.length (getI ls)) := by rw [Hid, e1]; exact hx
  clear e1 hx
  have p0 : w.cell? ⟨lb, 0, none⟩ = some (.slice ha n hc) := blk_cell hlb 0 _ rfl
  have p1 : w.cell? ⟨lb, 1, none⟩ = some (.slice (some ⟨qb, 0, none⟩) 1 1) := blk_cell hlb 1 _ rfl
  have c0 : cumI n 0 = 0 := rfl
  have c1 : cumI n 1 = n := rfl
  have c2 : cumI n 2 = n + 1 := rfl
  go_enter Try.func36, Try.ntmps36
  go_wp2
  go_loopg [3, 5, 11] 2 (fun g s _ i wr => ∃ r : Nat, r ≤ 2 ∧ g = 2 - r ∧ i = .int .i64 r ∧ s = .int .i64 (cumI n r) ∧ wr = w)
  case atStart => exact ⟨0, by omega, rfl, rfl, rfl, rfl⟩
  case round =>
    obtain ⟨r, hr, rfl, rfl, rfl, hwr⟩ := hrel
    have hwr' := hwr.symm
    subst hwr'
    clear hwr
    have hc3 : r = 0 ∨ r = 1 ∨ r = 2 := by omega
    rcases hc3 with rfl | rfl | rfl
    · go_wp2
      go_roundg 1
      case measure => omega
      case rel => exact ⟨1, by omega, rfl, by go_num, by rw [c1], rfl⟩
    · have hd : decide ((n : Int) + 1 < 0) = false := by simp; omega
      go_wp2
      go_roundg 0
      case measure => omega
      case rel => exact ⟨2, by omega, rfl, by go_num, by rw [c2]; go_num, rfl⟩
    · go_wp2_with fail
      refine (growI_nil (n + 1) _ (by omega) (by omega)).mono ?_
      rintro e w1 ⟨⟨v, rfl, ho1⟩, hb1⟩
      clear p0 p1
      go_wp2
      go_loopg [6, 8, 27] 2 (fun g u _ i wr => ∃ r : Nat, r ≤ 2 ∧ g = 2 - r ∧ i = .int .i64 r ∧ wr.ownsRow w.heap.size 3 1 u (cumI n r) (cellsI (partI ls x r)) ∧ Below w.heap.size w wr)
      case atStart => exact ⟨0, by omega, rfl, rfl, ho1, hb1⟩
      case round =>
        obtain ⟨r, hr, rfl, rfl, ho, hbel⟩ := hrel
        obtain ⟨w2, ew2⟩ : ∃ x, x = wr := ⟨_, rfl⟩
        subst ew2
        have hsz := hbel.size
        have hlb2 := blk_below hlb hbel
        have p0 : w2.cell? ⟨lb, 0, none⟩ = some (.slice ha n hc) := blk_cell hlb2 0 _ rfl
        have p1 : w2.cell? ⟨lb, 1, none⟩ = some (.slice (some ⟨qb, 0, none⟩) 1 1) := blk_cell hlb2 1 _ rfl
        have hc3 : r = 0 ∨ r = 1 ∨ r = 2 := by omega
        rcases hc3 with rfl | rfl | rfl
        · have HC : Hid (∀ ad, ha = some ad → ∀ j u, (cellsI ls)[j]? = some u → w2.cell? (ad.add j) = some u) := ints_cells (HX.out.below hbel)
          go_wp2_with (first | (at_builtin; refine wpList_append_any _ (by rfl) (.tmp 31) (.tmp 32) 26 (by rfl) w.heap.size 3 j0 (.int .i64 0) 1 8 Try.underlying26 ji jz0 jz1 jz2 rfl (by decide) _ 0 [] (by rfl) ho ha n hc (cellsI ls) (by rfl) hna (by rw [cellsI_length, E1.out, Nat.mul_one]) HC.out (cellsI_one ls) (by unfold maxLen; omega) (by omega) hsz ?_; intro v' w3 ho3 hg3))
          go_roundg 1
          case measure => omega
          case rel => exact ⟨1, by omega, rfl, by go_num, by
            rw [c1]; rw [Nat.zero_add, List.nil_append] at ho3; exact ho3, hbel.grown hg3 hsz (fun j hj => (ho.lt j hj).1)⟩
        · have HC : Hid (∀ ad, (some ⟨qb, 0, none⟩ : Option Addr) = some ad → ∀ j u, (cellsI [x])[j]? = some u → w2.cell? (ad.add j) = some u) := by
            intro ad e j u hu
            cases e
            obtain ⟨hj, rfl⟩ := intList_get _ _ _ _ hu
            obtain rfl : j = 0 := by simpa using hj
            exact (hbel.cell (p := ⟨qb, 0, none⟩) hqb).trans hy
          have ho' : w2.ownsRow w.heap.size 3 1 u6 n (cellsI ls) := ho
          clear ho
          go_wp2_with (first | (at_builtin; refine wpList_append_any _ (by rfl) (.tmp 31) (.tmp 32) 26 (by rfl) w.heap.size 3 j0 (.int .i64 0) 1 8 Try.underlying26 ji jz0 jz1 jz2 rfl (by decide) _ n (cellsI ls) (by rfl) ho' (some ⟨qb, 0, none⟩) 1 1 (cellsI [x]) (by rfl) (fun h => (by cases h)) (by rw [cellsI_length]; rfl) HC.out (cellsI_one _) (by unfold maxLen; omega) (by omega) hsz ?_; intro v' w3 ho3 hg3))
          go_roundg 0
          case measure => omega
          case rel => exact ⟨2, by omega, rfl, by go_num, by
            rw [c2]
            have : cellsI (partI ls x 2) = cellsI ls ++ cellsI [x] := cellsI_append _ _
            rw [this]; exact ho3, hbel.grown hg3 hsz (fun j hj => (ho'.lt j hj).1)⟩
        · rw [c2] at ho
          have ho' : w2.ownsRow w.heap.size 3 1 u6 (n + 1) (cellsI (ls ++ [x])) := ho
          clear ho
          obtain ⟨ao', c', rfl, _⟩ := own_form ho'
          go_wp2
          go_ret
          exact ⟨⟨ao', c', rfl, ho'⟩, hbel⟩

end Go.Proofs.Ythcjfoaejomfaaa
