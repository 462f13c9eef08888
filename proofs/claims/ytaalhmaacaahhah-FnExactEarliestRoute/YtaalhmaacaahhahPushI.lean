/-
  OWN TEXT: the contract of pushHeap over routes.
-/
import Derived.Test.YtaalhmaacaahhahPopI
namespace Go.Proofs.Ytaalhmaacaahhah
open Go.RowKit

theorem Try.infoRoute : (Try.prog.info? 68).map (fun i => (i.zero, i.size, i.bytes)) = some (some (.agg #[.slice none 0 0, .string ⟨#[]⟩, .int .i64 0]), 3, 48) := by kernel_rfl
theorem rtList_snoc (H : Nat → Rt) (n : Nat) (r : Rt) : rtList (upd H n r) (n + 1) = rtList H n ++ [r.v, .string r.pl, .int .i64 r.t] := by
  unfold rtList
  rw [show (n + 1) * 3 = n * 3 + 1 + 1 + 1 by omega, List.range_succ, List.range_succ, List.range_succ]
  simp only [List.map_append, List.map_cons, List.map_nil, List.append_assoc, List.cons_append, List.nil_append]
  rw [rtCell_0, rtCell_1, show n * 3 + 1 + 1 = n * 3 + 2 by omega, rtCell_2, upd_at]
  congr 1
  refine List.map_congr_left fun j hj => ?_
  have hj' : j < n * 3 := by simpa using hj
  unfold rtCell
  rw [upd_ne _ _ _ (show j / 3 ≠ n by omega)]

/-- All but g is kept, where only g and a block that is new are written. -/
theorem far {w w2 w3 : World} {g g' : Nat} (h : g' = g ∨ w.heap.size ≤ g') (h1 : Kept w w2 (fun b => b = g)) (h2 : Kept w2 w3 (fun b => b = g')) : Kept w w3 (fun b => b = g) :=
  ⟨h2.os.trans h1.os, h2.tape.trans h1.tape, h2.output.trans h1.output, Nat.le_trans h1.size h2.size, fun i hi hne => (h2.block i (Nat.lt_of_lt_of_le hi h1.size) (by omega)).trans (h1.block i hi hne)⟩

/-- A route is put onto the heap. -/
def Pushed (e : Ending) (w w' : World) (base g n : Nat) (H : Nat → Rt) (r : Rt) : Prop :=
  ∃ g' cap' H', e = .returned (.slice (some ⟨g', 0, none⟩) (n + 1) cap') ∧ HeapAt w' base g' (n + 1) cap' H' ∧ Heap RBefR (n + 1) H' ∧ (∀ f, tot f H' (n + 1) = tot f H n + f r) ∧ Kept w w' (fun b => b = g) ∧ (g' = g ∨ w.heap.size ≤ g')

set_option maxHeartbeats 3200000 in
set_option maxRecDepth 100000 in
theorem push_any (base g n cap : Nat) (H : Nat → Rt) (r : Rt) (w : World) (hn : n + 1 ≤ 1048576) (hh : HeapAt w base g n cap H) (hp : Heap RBefR n H) (hr : RtOk w base r) :
    Calls Try.prog 75 #[.slice (some ⟨g, 0, none⟩) n cap, .agg #[r.v, .string r.pl, .int .i64 r.t], .func (.func 73) #[] #[]] w fun e w' => Pushed e w w' base g n H r := by
  obtain ⟨j0, ji, jz0, jz1, jz2⟩ := info_parts Try.infoRoute
  have HP : Hid (Heap RBefR n H) := hp
  have HH : Hid (HeapAt w base g n cap H) := hh
  have HR : Hid (RtOk w base r) := hr
  obtain ⟨ra, rl, er, _⟩ := hr.form
  have ER : Hid (r.v = .slice ra r.ls.length rl) := er
  rw [er]
  have hgl := hh.lt
  clear hp hh hr er
  have hb2 := push (push (Below.refl _ w) (.cells #[.slice ra r.ls.length rl, .string r.pl, .int .i64 r.t] 68)) (.cells #[.slice ra r.ls.length rl, .string r.pl, .int .i64 r.t] 68)
  have HB2 : Hid _ := hb2
  have own2 := (HH.out.below hb2).1
  have hnb : ((w.alloc (.cells #[.slice ra r.ls.length rl, .string r.pl, .int .i64 r.t] 68)).alloc (.cells #[.slice ra r.ls.length rl, .string r.pl, .int .i64 r.t] 68)).heap[w.heap.size + 1]? = some (.cells #[.slice ra r.ls.length rl, .string r.pl, .int .i64 r.t] 68 (0, 0)) := by simpa using heap_alloc_new (w.alloc _) _
  have HNW : Hid (∀ j u, [Value.slice ra r.ls.length rl, .string r.pl, .int .i64 r.t][j]? = some u → ((w.alloc (.cells #[.slice ra r.ls.length rl, .string r.pl, .int .i64 r.t] 68)).alloc (.cells #[.slice ra r.ls.length rl, .string r.pl, .int .i64 r.t] 68)).cell? ((⟨w.heap.size + 1, 0, none⟩ : Addr).add j) = some u) := World.news_of_block hnb
  have OWN2 : Hid _ := own2
  clear hb2 own2 hnb
  go_enter Try.func75, Try.ntmps75
  go_wp2_with (first | (at_builtin; refine wpList_append_lies _ (by rfl) (.tmp 9) (.tmp 11) 103 (by rfl) base 68 j0 (.agg #[.slice none 0 0, .string ⟨#[]⟩, .int .i64 0]) 3 48 Try.underlying103 ji jz0 jz1 jz2 rfl (by decide) _ n (rtList H n) (by rfl) OWN2.out ⟨w.heap.size + 1, 0, none⟩ 1 1 [.slice ra r.ls.length rl, .string r.pl, .int .i64 r.t] (by rfl) (by rfl) HNW.out (by simp [Value.oneCell']) (by decide) (by unfold maxLen; omega) (by omega) (by simp; omega) (w.heap.size + 2) (by simp) ?_; intro g' cap' w2 ho2 hg2 hat hlt2))
  have HN2 : Hid (HeapAt w2 base g' (n + 1) cap' (upd H n r)) := by
    have hk : Kept ((w.alloc (.cells #[.slice ra r.ls.length rl, .string r.pl, .int .i64 r.t] 68)).alloc (.cells #[.slice ra r.ls.length rl, .string r.pl, .int .i64 r.t] 68)) w2 (fun b => b = g) := ⟨hg2.os, hg2.tape, hg2.output, hg2.size, fun i hi hne => hg2.block i hi (fun e => hne (by simpa [Value.ownBlock] using e))⟩
    refine ⟨?_, fun i hi => ?_⟩
    · rw [rtList_snoc, ER.out]; exact ho2
    · by_cases e : i = n
      · subst e; rw [upd_at]; exact rt_kept (HH.out.below HB2.out) hk (HR.out.below HB2.out)
      · rw [upd_ne _ _ _ e]; exact rt_kept (HH.out.below HB2.out) hk ((HH.out.2 i (by omega)).below HB2.out)
  have HK2 : Hid (Kept w w2 (fun b => b = g)) := (Kept.of_below HB2.out).trans ⟨hg2.os, hg2.tape, hg2.output, hg2.size, fun i hi hne => hg2.block i hi (fun e => hne (by simpa [Value.ownBlock] using e))⟩
  have HAT : Hid (g' = g ∨ w.heap.size ≤ g') := by
    rcases hat with h | h
    · left; simpa [Value.ownBlock] using h.symm
    · right; omega
  clear ho2 hg2 hat hlt2 OWN2 HNW HB2 HH HR
  go_loopw [7, 8] (fun s7 _ wr => ∃ (a : Nat) (H' : Nat → Rt), s7 = .int .i64 a ∧ a < n + 1 ∧ HeapAt wr base g' (n + 1) cap' H' ∧ HeapUp RBefR (n + 1) H' a ∧ (∀ f, tot f H' (n + 1) = tot f H n + f r) ∧ Kept w2 wr (fun b => b = g')) (fun s7 _ _ => (intOf s7).toNat)
  case atStart => exact ⟨n, upd H n r, by go_num, by omega, HN2.out, heap_push r HP.out, fun f => by
    show tot f (upd H n r) n + f (upd H n r n) = _
    rw [upd_at, tot_congr f (H := upd H n r) (H' := H) (fun i hi => upd_ne _ _ _ (by omega))], Kept.refl _ _⟩
  case round =>
    obtain ⟨a, H', rfl, han, hh, hup, htot, hk⟩ := hrel
    have HH : Hid (HeapAt wr base g' (n + 1) cap' H') := hh
    have HUP : Hid (HeapUp RBefR (n + 1) H' a) := hup
    have HT : Hid (∀ f, tot f H' (n + 1) = tot f H n + f r) := htot
    have HK : Hid (Kept w2 wr (fun b => b = g')) := hk
    clear hh hup htot hk HN2 HP
    by_cases a0 : a = 0
    · subst a0
      go_wp2
      go_ret
      exact ⟨g', cap', H', rfl, HH.out, up_done HUP.out (.inl rfl), HT.out, far HAT.out HK2.out HK.out, HAT.out⟩
    · have d0 : decide (0 < a) = true := by simp; omega
      have k5 : IntKind.i64.wrap ((a : Int) - 1) = (a : Int) - 1 := by rw [IntKind.wrap_i64]; omega
      obtain ⟨u, hu⟩ : ∃ u : Nat, u = (a - 1) / 2 := ⟨_, rfl⟩
      have HU : Hid (u = (a - 1) / 2) := hu
      have hua : u < a := by omega
      have kq : ((a : Int) - 1) / 2 = (u : Int) := by omega
      clear hu
      have i1 : (a : Int) < (n : Int) + 1 := by omega
      have i2 : (0 : Int) ≤ (a : Int) := by omega
      have i3 : (u : Int) < (n : Int) + 1 := by omega
      have i4 : (0 : Int) ≤ (u : Int) := by omega
      have hgl := HH.out.lt
      obtain ⟨p0', p1', p2'⟩ := HH.out.cells (i := a) (by omega)
      obtain ⟨q0', q1', q2'⟩ := HH.out.cells (i := u) (by omega)
      have p0 : ∀ q : Grown wr, q.val.cell? ⟨g', a * 3, none⟩ = _ := fun q => (q.bel.cell (p := ⟨g', a * 3, none⟩) hgl.1).trans p0'
      have p1 : ∀ q : Grown wr, q.val.cell? ⟨g', a * 3 + 1, none⟩ = _ := fun q => (q.bel.cell (p := ⟨g', a * 3 + 1, none⟩) hgl.1).trans p1'
      have p2 : ∀ q : Grown wr, q.val.cell? ⟨g', a * 3 + 2, none⟩ = _ := fun q => (q.bel.cell (p := ⟨g', a * 3 + 2, none⟩) hgl.1).trans p2'
      have q0 : ∀ q : Grown wr, q.val.cell? ⟨g', u * 3, none⟩ = _ := fun q => (q.bel.cell (p := ⟨g', u * 3, none⟩) hgl.1).trans q0'
      have q1 : ∀ q : Grown wr, q.val.cell? ⟨g', u * 3 + 1, none⟩ = _ := fun q => (q.bel.cell (p := ⟨g', u * 3 + 1, none⟩) hgl.1).trans q1'
      have q2 : ∀ q : Grown wr, q.val.cell? ⟨g', u * 3 + 2, none⟩ = _ := fun q => (q.bel.cell (p := ⟨g', u * 3 + 2, none⟩) hgl.1).trans q2'
      clear p0' p1' p2' q0' q1' q2'
      go_upto_region 5 with fail
      rw [kq]
      clear kq k5
      by_cases hb : RBefR (H' a) (H' u)
      · have HL : Hid (RBefR (H' a) (H' u)) := hb
        clear hb
        refine wp_region_grow (by kernel_rfl) (by kernel_rfl) ?_
        repeat (first | go_big_quiet_skip | (go_big_quiet_want; go_big_quiet_op; first | go_big_quiet_on | (apply Exists.intro; refine ⟨fun q => ?_, ?_⟩; (focus (go_at_call 73; refine grown_call (v := .bool true) ((comesFirst_rt _ _ _ ((HH.out.2 a (by omega)).below q.bel) ((HH.out.2 u (by omega)).below q.bel)).mono ?_); rintro e w4 ⟨⟨bb, rfl, hi⟩, hbb⟩; obtain rfl := hi.2 HL.out; exact ⟨rfl, hbb⟩)); go_big_quiet_on)))
        refine wpQuiet_nil ?_
        rintro _ ⟨q, rfl⟩
        go_upto_region 6 with fail
        have HH4 : Hid (HeapAt q.val base g' (n + 1) cap' H') := HH.out.below q.bel
        have HK4 : Hid (Kept w2 q.val (fun b => b = g')) := HK.out.trans (Kept.of_below q.bel)
        obtain ⟨w4, ew4⟩ : ∃ y, y = q.val := ⟨_, rfl⟩
        rw [← ew4] at HH4 HK4 ⊢
        clear ew4 p0 p1 p2 q0 q1 q2
        obtain ⟨p0, p1, p2⟩ := HH4.out.cells (i := u) (by omega)
        obtain ⟨q0, q1, q2⟩ := HH4.out.cells (i := a) (by omega)
        obtain ⟨ca, cl, ec, _⟩ := (HH4.out.2 u (by omega)).form
        obtain ⟨aa, al, ea, _⟩ := (HH4.out.2 a (by omega)).form
        have EC : Hid ((H' u).v = .slice ca (H' u).ls.length cl) := ec
        have EA : Hid ((H' a).v = .slice aa (H' a).ls.length al) := ea
        rw [ec] at p0
        rw [ea] at q0
        clear ec ea
        have fc0 := HH4.out.free (u * 3)
        have fc1 := HH4.out.free (u * 3 + 1)
        have fc2 := HH4.out.free (u * 3 + 2)
        have fa0 := HH4.out.free (a * 3)
        have fa1 := HH4.out.free (a * 3 + 1)
        have fa2 := HH4.out.free (a * 3 + 2)
        have hca : u ≠ a := by omega
        go_cut [7, 8] (fun s7 s8 wx => s7 = .int .i64 a ∧ s8 = .int .i64 u ∧ wx = (((((((w4.setCell ⟨g', a * 3, none⟩ (.slice ca (H' u).ls.length cl)).setCell ⟨g', a * 3 + 1, none⟩ (.string (H' u).pl)).setCell ⟨g', a * 3 + 2, none⟩ (.int .i64 (H' u).t)).setCell ⟨g', u * 3, none⟩ (.slice aa (H' a).ls.length al)).setCell ⟨g', u * 3 + 1, none⟩ (.string (H' a).pl)).setCell ⟨g', u * 3 + 2, none⟩ (.int .i64 (H' a).t))).drew)
        case first =>
          clear HH HK HUP HT HL HK2 HAT
          go_region
          all_goals (go_wp2; go_meet; exact ⟨rfl, rfl, rfl⟩)
        case rest =>
          obtain ⟨rfl, rfl, hwc⟩ := hcut
          have key := HH4.out.swp (i := a) (j := u) (by omega) (by omega)
          unfold set3 at key
          rw [EC.out, EA.out] at key
          have k2 := (set3_kept w4 g' (a * 3) (H' u).v (.string (H' u).pl) (.int .i64 (H' u).t)).trans (set3_kept _ g' (u * 3) (H' a).v (.string (H' a).pl) (.int .i64 (H' a).t))
          unfold set3 at k2
          rw [EC.out, EA.out] at k2
          have KEY : Hid (HeapAt wc base g' (n + 1) cap' (swp H' a u)) := by rw [hwc]; exact key.below (Below.refl _ _).drew
          have K2 : Hid (Kept w2 wc (fun b => b = g')) := by rw [hwc]; exact (HK4.out.trans k2).trans (Kept.of_below (Below.refl _ _).drew)
          clear key k2 hwc p0 p1 p2 q0 q1 q2 fc0 fc1 fc2 fa0 fa1 fa2
          go_wp2
          go_roundw
          case rel => exact ⟨u, swp H' a u, rfl, by omega, KEY.out, by
            have := HU.out
            subst this
            exact up_step rbef_ord HUP.out (by omega) han HL.out, fun f => by rw [tot_swp f H' (by omega) (by omega) (by omega)]; exact HT.out f, K2.out⟩
          case measure => simp [intOf]; omega
      · have HL : Hid (¬ RBefR (H' a) (H' u)) := hb
        clear hb
        refine wp_region_grow (by kernel_rfl) (by kernel_rfl) ?_
        repeat (first | go_big_quiet_skip | (go_big_quiet_want; go_big_quiet_op; first | go_big_quiet_on | (apply Exists.intro; refine ⟨fun q => ?_, ?_⟩; (focus (go_at_call 73; refine grown_call (v := .bool false) ((comesFirst_rt _ _ _ ((HH.out.2 a (by omega)).below q.bel) ((HH.out.2 u (by omega)).below q.bel)).mono ?_); rintro e w4 ⟨⟨bb, rfl, hi⟩, hbb⟩; obtain rfl := Bool.eq_false_iff.2 (fun e => HL.out (hi.1 e)); exact ⟨rfl, hbb⟩)); go_big_quiet_on)))
        refine wpQuiet_nil ?_
        rintro _ ⟨q, rfl⟩
        go_wp2
        go_ret
        exact ⟨g', cap', H', rfl, HH.out.below q.bel, up_done HUP.out (.inr (by rw [← HU.out]; exact HL.out)), HT.out, far HAT.out HK2.out (HK.out.trans (Kept.of_below q.bel)), HAT.out⟩

end Go.Proofs.Ytaalhmaacaahhah
