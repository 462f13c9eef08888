/-
  OWN TEXT: ImplT, KitRes, AlikeI.
-/
import Derived.Laws.CopyOwn
import Derived.Laws.Tables
import Derived.Great.Walk
import Derived.Test.YtcioofnmhfehaaaGreatB14
import Derived.Test.YtcioofnmhfehaaaGreatB04
import Derived.Test.YtcioofnmhfehaaaGreatB00
import Derived.Test.YtcioofnmhfehaaaGreatB12
namespace Go.Proofs.YtcioofnmhfehaaaGreat
open Go.RowKit

set_option maxHeartbeats 3200000 in
set_option maxRecDepth 100000 in
theorem implTab_any (ao : Option Addr) (N c : Nat) (S : Nat → Sail) (w : World) (hN : N ≤ 1048576) (hs : ShortAll N S 1048576) (hx : SailsAt w ao N S) :
    Calls Tryz.prog 39 #[.slice ao N c] w fun e w' => SaysIf (GoodTab N S) e ∧ Below w.heap.size w w' := by
  have HS : Hid (ShortAll N S 1048576) := hs
  clear hs
  by_cases h6 : N ≤ 6
  · have d6 : decide (6 < N) = false := by simp; omega
    go_enter Tryz.func39, Tryz.ntmps39
    go_wp2
    go_loopw [3, 4, 10] (fun _ _ i wr => ∃ k : Nat, k ≤ N ∧ i = .int .i64 k ∧ (∀ j, j < k → GoodSail (S j) ∧ (0 < j → (S (j - 1)).id < (S j).id)) ∧ Below w.heap.size w wr) (fun _ _ i _ => N - (intOf i).toNat)
    case atStart => exact ⟨0, Nat.zero_le _, rfl, fun j hj => by omega, Below.refl _ _⟩
    case round =>
      obtain ⟨k, hk, rfl, hall, hbel⟩ := hrel
      have HA : Hid (∀ j, j < k → GoodSail (S j) ∧ (0 < j → (S (j - 1)).id < (S j).id)) := hall
      clear hall d6
      by_cases hlt : k < N
      · have HP : Hid (0 < k → ∀ b off, ao = some ⟨b, off, none⟩ → w.cell? ⟨b, off + (k - 1) * 8, none⟩ = some (.int .i64 (S (k - 1)).id)) := by
          intro h b off e
          obtain ⟨b', off', _, _, _, _, e', g, _⟩ := hx (k - 1) (by omega)
          rw [e] at e'
          simp only [Option.some.injEq, Addr.mk.injEq, and_true] at e'
          obtain ⟨rfl, rfl⟩ := e'
          exact g
        obtain ⟨b, off, la, lc, ca, cc, rfl, h0, h1, h2, h3, h4, h5, h6', h7, h8, h9, _, _⟩ := hx k hlt
        have HP2 : Hid (0 < k → w.cell? ⟨b, off + (k - 1) * 8, none⟩ = some (.int .i64 (S (k - 1)).id)) := fun h => HP.out h b off rfl
        clear HP
        have hb := World.block_lt_of_cell? w _ h1
        have c0 := (hbel.cell (p := ⟨b, off + k * 8, none⟩) hb).trans h0
        have c1 := (hbel.cell (p := ⟨b, off + k * 8 + 1, none⟩) hb).trans h1
        have c2 := (hbel.cell (p := ⟨b, off + k * 8 + 2, none⟩) hb).trans h2
        have c3 := (hbel.cell (p := ⟨b, off + k * 8 + 3, none⟩) hb).trans h3
        have c4 := (hbel.cell (p := ⟨b, off + k * 8 + 4, none⟩) hb).trans h4
        have c5 := (hbel.cell (p := ⟨b, off + k * 8 + 5, none⟩) hb).trans h5
        have c6 := (hbel.cell (p := ⟨b, off + k * 8 + 6, none⟩) hb).trans h6'
        have c7 := (hbel.cell (p := ⟨b, off + k * 8 + 7, none⟩) hb).trans h7
        obtain ⟨s1, s2, s3, s4⟩ := HS.out k hlt
        have s1' : (S k).fr.size ≤ 1000000000000000 := by omega
        have s2' : (S k).dst.size ≤ 1000000000000000 := by omega
        clear s1 s2
        have hbx := push hbel (.cells #[.int .i64 (S k).id, .string (S k).fr, .string (S k).dst, .int .i64 (S k).dep, .int .i64 (S k).arr, .slice la (S k).la.n lc, .slice ca (S k).ca.n cc, .int .i64 (S k).most] 50)
        have hbox := heap_alloc_new wr (.cells #[.int .i64 (S k).id, .string (S k).fr, .string (S k).dst, .int .i64 (S k).dep, .int .i64 (S k).arr, .slice la (S k).la.n lc, .slice ca (S k).ca.n cc, .int .i64 (S k).most] 50)
        clear h0 h1 h2 h3 h4 h5 h6' h7
        go_upto_region 6 with fail
        generalize hW : wr.alloc (.cells #[.int .i64 (S k).id, .string (S k).fr, .string (S k).dst, .int .i64 (S k).dep, .int .i64 (S k).arr, .slice la (S k).la.n lc, .slice ca (S k).ca.n cc, .int .i64 (S k).most] 50) = W at hbx hbox ⊢
        clear hW
        have hrW : wr.heap.size < W.heap.size := blk_lt hbox
        have z0 : ∀ g : Grown W, g.val.cell? ⟨wr.heap.size, 0, none⟩ = _ := fun g => (g.bel.cell hrW).trans (blk_cell hbox 0 _ rfl)
        have z1 : ∀ g : Grown W, g.val.cell? ⟨wr.heap.size, 1, none⟩ = _ := fun g => (g.bel.cell hrW).trans (blk_cell hbox 1 _ rfl)
        have z2 : ∀ g : Grown W, g.val.cell? ⟨wr.heap.size, 2, none⟩ = _ := fun g => (g.bel.cell hrW).trans (blk_cell hbox 2 _ rfl)
        have z3 : ∀ g : Grown W, g.val.cell? ⟨wr.heap.size, 3, none⟩ = _ := fun g => (g.bel.cell hrW).trans (blk_cell hbox 3 _ rfl)
        have z4 : ∀ g : Grown W, g.val.cell? ⟨wr.heap.size, 4, none⟩ = _ := fun g => (g.bel.cell hrW).trans (blk_cell hbox 4 _ rfl)
        have z5 : ∀ g : Grown W, g.val.cell? ⟨wr.heap.size, 5, none⟩ = _ := fun g => (g.bel.cell hrW).trans (blk_cell hbox 5 _ rfl)
        have z6 : ∀ g : Grown W, g.val.cell? ⟨wr.heap.size, 6, none⟩ = _ := fun g => (g.bel.cell hrW).trans (blk_cell hbox 6 _ rfl)
        have z7 : ∀ g : Grown W, g.val.cell? ⟨wr.heap.size, 7, none⟩ = _ := fun g => (g.bel.cell hrW).trans (blk_cell hbox 7 _ rfl)
        have hbW : b < W.heap.size := Nat.lt_of_lt_of_le hb hbx.size
        clear c0 c1 c2 c3 c4 c5 c6 c7 hbox
        go_cut [10, 32] (fun i c wx => i = .int .i64 k ∧ Tells (GoodSail (S k) ∧ (0 < k → (S (k - 1)).id < (S k).id)) c ∧ Below w.heap.size w wx)
        case first =>
          by_cases hg : GoodSail (S k)
          · have HG : Hid (GoodSail (S k)) := hg
            clear hg
            by_cases k0 : k = 0
            · subst k0
              refine wp_region_grow (by kernel_rfl) (by kernel_rfl) ?_
              repeat (first | go_big_quiet_skip | (go_big_quiet_want; go_big_quiet_op; first | go_big_quiet_on | (apply Exists.intro; refine ⟨fun g => ?_, ?_⟩; (focus (go_at_call 70; refine grown_call (v := .bool true) ((implSailing_any _ _ _ _ _ _ _ _ _ _ _ _ (S 0).la (S 0).ca _ rfl rfl s1' s2' s3 s4 (h8.below (after hbx g.bel)) (h9.below (after hbx g.bel))).mono ?_); rintro e w2 ⟨⟨bb, rfl, hi⟩, hbb⟩; obtain rfl := hi.2 HG.out; exact ⟨rfl, hbb⟩)); go_big_quiet_on)))
              refine wpQuiet_nil ?_
              rintro _ ⟨g, rfl⟩
              go_wp2
              go_meet
              exact ⟨rfl, tells_good ⟨HG.out, fun h => by omega⟩, after hbx g.bel⟩
            · have d0 : decide (0 < k) = true := by simp; omega
              have hk2 : ((k : Int) - 1).toNat = k - 1 := by omega
              have hk3 : (k : Int) - 1 < (N : Int) := by omega
              have hk4 : (0 : Int) ≤ (k : Int) - 1 := by omega
              have hk5 : IntKind.i64.wrap ((k : Int) - 1) = (k : Int) - 1 := by rw [IntKind.wrap_i64]; omega
              have y0 : ∀ g : Grown W, g.val.cell? ⟨b, off + (k - 1) * 8, none⟩ = _ := fun g => ((after hbx g.bel).cell (p := ⟨b, off + (k - 1) * 8, none⟩) hb).trans (HP2.out (by omega))
              by_cases hle : (S k).id ≤ (S (k - 1)).id
              · have e2 : decide ((S k).id ≤ (S (k - 1)).id) = true := by simpa using hle
                refine wp_region_grow (by kernel_rfl) (by kernel_rfl) ?_
                repeat (first | go_big_quiet_skip | (go_big_quiet_want; go_big_quiet_op; first | go_big_quiet_on | (apply Exists.intro; refine ⟨fun g => ?_, ?_⟩; (focus (go_at_call 70; refine grown_call (v := .bool true) ((implSailing_any _ _ _ _ _ _ _ _ _ _ _ _ (S k).la (S k).ca _ rfl rfl s1' s2' s3 s4 (h8.below (after hbx g.bel)) (h9.below (after hbx g.bel))).mono ?_); rintro e w2 ⟨⟨bb, rfl, hi⟩, hbb⟩; obtain rfl := hi.2 HG.out; exact ⟨rfl, hbb⟩)); go_big_quiet_on)))
                refine wpQuiet_nil ?_
                rintro _ ⟨g, rfl⟩
                go_wp2
                go_meet
                exact ⟨rfl, tells_bad (fun h => by have := h.2 (by omega); omega), after hbx g.bel⟩
              · have e2 : decide ((S k).id ≤ (S (k - 1)).id) = false := by simpa using hle
                refine wp_region_grow (by kernel_rfl) (by kernel_rfl) ?_
                repeat (first | go_big_quiet_skip | (go_big_quiet_want; go_big_quiet_op; first | go_big_quiet_on | (apply Exists.intro; refine ⟨fun g => ?_, ?_⟩; (focus (go_at_call 70; refine grown_call (v := .bool true) ((implSailing_any _ _ _ _ _ _ _ _ _ _ _ _ (S k).la (S k).ca _ rfl rfl s1' s2' s3 s4 (h8.below (after hbx g.bel)) (h9.below (after hbx g.bel))).mono ?_); rintro e w2 ⟨⟨bb, rfl, hi⟩, hbb⟩; obtain rfl := hi.2 HG.out; exact ⟨rfl, hbb⟩)); go_big_quiet_on)))
                refine wpQuiet_nil ?_
                rintro _ ⟨g, rfl⟩
                go_wp2
                go_meet
                exact ⟨rfl, tells_good ⟨HG.out, fun _ => by omega⟩, after hbx g.bel⟩
          · have HG : Hid (¬ GoodSail (S k)) := hg
            clear hg
            refine wp_region_grow (by kernel_rfl) (by kernel_rfl) ?_
            repeat (first | go_big_quiet_skip | (go_big_quiet_want; go_big_quiet_op; first | go_big_quiet_on | (apply Exists.intro; refine ⟨fun g => ?_, ?_⟩; (focus (go_at_call 70; refine grown_call (v := .bool false) ((implSailing_any _ _ _ _ _ _ _ _ _ _ _ _ (S k).la (S k).ca _ rfl rfl s1' s2' s3 s4 (h8.below (after hbx g.bel)) (h9.below (after hbx g.bel))).mono ?_); rintro e w2 ⟨⟨bb, rfl, hi⟩, hbb⟩; obtain rfl := Bool.eq_false_iff.2 (fun e => HG.out (hi.1 e)); exact ⟨rfl, hbb⟩)); go_big_quiet_on)))
            refine wpQuiet_nil ?_
            rintro _ ⟨g, rfl⟩
            go_wp2
            go_meet
            exact ⟨rfl, tells_bad (fun h => HG.out h.1), after hbx g.bel⟩
        case rest =>
          obtain ⟨rfl, ⟨t, rfl, ht⟩, hbx2⟩ := hcut
          have HT : Hid (t = false ↔ GoodSail (S k) ∧ (0 < k → (S (k - 1)).id < (S k).id)) := ht
          clear ht z0 z1 z2 z3 z4 z5 z6 z7
          cases t with
          | true =>
            go_wp2
            go_ret
            exact ⟨says_no (fun h => by have := HT.out.2 (h.2 k hlt); cases this), hbx2⟩
          | false =>
            have HK := HT.out.1 rfl
            have HK : Hid _ := HK
            clear HT
            go_wp2
            go_roundw
            case rel => exact ⟨k + 1, by omega, by go_num, fun j hj => by
              by_cases e : j = k
              · subst e; exact HK.out
              · exact HA.out j (by omega), hbx2⟩
            case measure => simp [intOf]; omega
      · obtain rfl : k = N := by omega
        go_wp2
        go_ret
        exact ⟨says_yes ⟨h6, HA.out⟩, hbel⟩
  · have d6 : decide (6 < N) = true := by simp; omega
    go_enter Tryz.func39, Tryz.ntmps39
    go_wp2
    go_ret
    exact ⟨says_no (fun h => h6 h.1), Below.refl _ _⟩

end Go.Proofs.YtcioofnmhfehaaaGreat

namespace Go.Proofs.YtcioofnmhfehaaaGreat
open Go.RowKit

theorem results_cell {P : Program} {fn : Func} {tmps : Array Value} {w : World} {r : Nat} {t : TypeId} {a : Addr} {v : Value} (hf : fn.results = #[.cell r t]) (ht : tmps.getD r undef = .pointer (some a)) (hl : (loadVar t a).run P w = .ok v w) :
    (results fn tmps).run P w = .ok v w := by
  have ha : (asAddr (.pointer (some a))).run P w = .ok a w := by simp [asAddr, go_sem]
  unfold results
  rw [hf]
  simp only [List.mapM_toArray, List.mapM_cons, List.mapM_nil, Sem.run_bind, ht]
  simp [↓ha, ↓hl]

end Go.Proofs.YtcioofnmhfehaaaGreat

namespace Go.Proofs.YtcioofnmhfehaaaGreat
open Go.RowKit Classical

set_option maxHeartbeats 3200000 in
set_option maxRecDepth 100000 in
theorem sameSailing_raw (i1 : Int) (f1 t1 : ByteArray) (d1 a1 : Int) (p1 q1 : Pairs) (m1 : Int) (la ca : Option Addr) (lc cc : Nat) (i2 : Int) (f2 t2 : ByteArray) (d2 a2 : Int) (p2 q2 : Pairs) (m2 : Int) (la' ca' : Option Addr) (lc' cc' : Nat) (w : World) (h1 : p1.n ≤ 1048576) (h2 : q1.n ≤ 1048576) (h3 : p2.n ≤ 1048576) (h4 : q2.n ≤ 1048576) (k1 : PairsAt w la p1) (k2 : PairsAt w ca q1) (k3 : PairsAt w la' p2) (k4 : PairsAt w ca' q2) :
    Calls Tryz.prog 41 #[.agg #[.int .i64 i1, .string f1, .string t1, .int .i64 d1, .int .i64 a1, .slice la p1.n lc, .slice ca q1.n cc, .int .i64 m1], .agg #[.int .i64 i2, .string f2, .string t2, .int .i64 d2, .int .i64 a2, .slice la' p2.n lc', .slice ca' q2.n cc', .int .i64 m2]] w fun e w' => e = .returned (.bool (decide (SailEq ⟨i1, f1, t1, d1, a1, p1, q1, m1⟩ ⟨i2, f2, t2, d2, a2, p2, q2, m2⟩))) ∧ Below w.heap.size w w' := by
  have hb0 : Below w.heap.size w ((w.alloc (.cells #[.int .i64 i1, .string f1, .string t1, .int .i64 d1, .int .i64 a1, .slice la p1.n lc, .slice ca q1.n cc, .int .i64 m1] 50)).alloc (.cells #[.int .i64 i2, .string f2, .string t2, .int .i64 d2, .int .i64 a2, .slice la' p2.n lc', .slice ca' q2.n cc', .int .i64 m2] 50)) := push (push (Below.refl _ _) _) _
  by_cases e0 : i1 = i2
  case neg =>
    have z1 : decide (SailEq ⟨i1, f1, t1, d1, a1, p1, q1, m1⟩ ⟨i2, f2, t2, d2, a2, p2, q2, m2⟩) = false := decide_eq_false (fun h => e0 h.1)
    rw [z1]
    have hh : (i1 = i2) = False := eq_false e0
    go_enter Tryz.func41, Tryz.ntmps41
    go_wp2
    go_ret
    exact ⟨rfl, hb0⟩
  subst e0
  by_cases e1 : f1 = f2
  case neg =>
    have z1 : decide (SailEq ⟨i1, f1, t1, d1, a1, p1, q1, m1⟩ ⟨i1, f2, t2, d2, a2, p2, q2, m2⟩) = false := decide_eq_false (fun h => e1 h.2.1)
    rw [z1]
    have hh : (f1.toList = f2.toList) = False := eq_false (fun e => e1 (toList_inj e))
    go_enter Tryz.func41, Tryz.ntmps41
    go_wp2
    go_ret
    exact ⟨rfl, hb0⟩
  subst e1
  by_cases e2 : t1 = t2
  case neg =>
    have z1 : decide (SailEq ⟨i1, f1, t1, d1, a1, p1, q1, m1⟩ ⟨i1, f1, t2, d2, a2, p2, q2, m2⟩) = false := decide_eq_false (fun h => e2 h.2.2.1)
    rw [z1]
    have hh : (t1.toList = t2.toList) = False := eq_false (fun e => e2 (toList_inj e))
    go_enter Tryz.func41, Tryz.ntmps41
    go_wp2
    go_ret
    exact ⟨rfl, hb0⟩
  subst e2
  by_cases e3 : d1 = d2
  case neg =>
    have z1 : decide (SailEq ⟨i1, f1, t1, d1, a1, p1, q1, m1⟩ ⟨i1, f1, t1, d2, a2, p2, q2, m2⟩) = false := decide_eq_false (fun h => e3 h.2.2.2.1)
    rw [z1]
    have hh : (d1 = d2) = False := eq_false e3
    go_enter Tryz.func41, Tryz.ntmps41
    go_wp2
    go_ret
    exact ⟨rfl, hb0⟩
  subst e3
  by_cases e4 : a1 = a2
  case neg =>
    have z1 : decide (SailEq ⟨i1, f1, t1, d1, a1, p1, q1, m1⟩ ⟨i1, f1, t1, d1, a2, p2, q2, m2⟩) = false := decide_eq_false (fun h => e4 h.2.2.2.2.1)
    rw [z1]
    have hh : (a1 = a2) = False := eq_false e4
    go_enter Tryz.func41, Tryz.ntmps41
    go_wp2
    go_ret
    exact ⟨rfl, hb0⟩
  subst e4
  obtain ⟨u, hu⟩ : ∃ u : Bool, u = decide (PairsAlike p1 p2) := ⟨_, rfl⟩
  obtain ⟨v, hv⟩ : ∃ v : Bool, v = decide (PairsAlike q1 q2) := ⟨_, rfl⟩
  have HU : Hid (u = decide (PairsAlike p1 p2)) := hu
  have HV : Hid (v = decide (PairsAlike q1 q2)) := hv
  obtain ⟨r, hr⟩ : ∃ r : Bool, r = decide (SailEq ⟨i1, f1, t1, d1, a1, p1, q1, m1⟩ ⟨i1, f1, t1, d1, a1, p2, q2, m2⟩) := ⟨_, rfl⟩
  have HR : Hid (r = (u && (v && decide (m1 = m2)))) := by
    rw [hr, hu, hv]
    unfold Hid
    rw [Bool.eq_iff_iff]
    simp only [decide_eq_true_eq, Bool.and_eq_true]
    exact ⟨fun h => ⟨h.2.2.2.2.2.1, h.2.2.2.2.2.2.1, h.2.2.2.2.2.2.2⟩, fun h => ⟨rfl, rfl, rfl, rfl, rfl, h.1, h.2.1, h.2.2⟩⟩
  rw [← hr]
  clear hu hv hr
  have bA : ((w.alloc (.cells #[.int .i64 i1, .string f1, .string t1, .int .i64 d1, .int .i64 a1, .slice la p1.n lc, .slice ca q1.n cc, .int .i64 m1] 50)).alloc (.cells #[.int .i64 i1, .string f1, .string t1, .int .i64 d1, .int .i64 a1, .slice la' p2.n lc', .slice ca' q2.n cc', .int .i64 m2] 50)).heap[w.heap.size]? = some (.cells #[.int .i64 i1, .string f1, .string t1, .int .i64 d1, .int .i64 a1, .slice la p1.n lc, .slice ca q1.n cc, .int .i64 m1] 50 (0, 0)) := blk_alloc (heap_alloc_new w _) _
  have bB : ((w.alloc (.cells #[.int .i64 i1, .string f1, .string t1, .int .i64 d1, .int .i64 a1, .slice la p1.n lc, .slice ca q1.n cc, .int .i64 m1] 50)).alloc (.cells #[.int .i64 i1, .string f1, .string t1, .int .i64 d1, .int .i64 a1, .slice la' p2.n lc', .slice ca' q2.n cc', .int .i64 m2] 50)).heap[w.heap.size + 1]? = some (.cells #[.int .i64 i1, .string f1, .string t1, .int .i64 d1, .int .i64 a1, .slice la' p2.n lc', .slice ca' q2.n cc', .int .i64 m2] 50 (0, 0)) := by simpa using heap_alloc_new (w.alloc _) _
  go_enter Tryz.func41, Tryz.ntmps41
  go_wp2_with fail
  generalize (w.alloc (.cells #[.int .i64 i1, .string f1, .string t1, .int .i64 d1, .int .i64 a1, .slice la p1.n lc, .slice ca q1.n cc, .int .i64 m1] 50)).alloc (.cells #[.int .i64 i1, .string f1, .string t1, .int .i64 d1, .int .i64 a1, .slice la' p2.n lc', .slice ca' q2.n cc', .int .i64 m2] 50) = V at hb0 bA bB ⊢
  refine (equalLane_any la la' lc lc' p1 p2 _ h1 h3 (k1.below hb0) (k3.below hb0)).mono ?_
  rintro e w1 ⟨he, hb1⟩
  rw [← HU.out] at he
  subst he
  replace bA := blk_below bA hb1
  replace bB := blk_below bB hb1
  replace hb0 := after hb0 hb1
  clear hb1 HU
  cases u with
  | false =>
    have hrf : r = false := by rw [HR.out]; rfl
    subst hrf
    clear HR
    go_wp2
    go_ret
    exact ⟨rfl, hb0⟩
  | true =>
  have x6 := blk_cell bA 6 _ rfl
  have y6 := blk_cell bB 6 _ rfl
  go_wp2_with fail
  refine (equalCabin_any ca ca' cc cc' q1 q2 _ h2 h4 (k2.below hb0) (k4.below hb0)).mono ?_
  rintro e w2 ⟨he, hb1⟩
  rw [← HV.out] at he
  subst he
  replace bA := blk_below bA hb1
  replace bB := blk_below bB hb1
  replace hb0 := after hb0 hb1
  clear hb1 HV x6 y6
  cases v with
  | false =>
    have hrf : r = false := by rw [HR.out]; rfl
    subst hrf
    clear HR
    go_wp2
    go_ret
    exact ⟨rfl, hb0⟩
  | true =>
  have x7 := blk_cell bA 7 _ rfl
  have y7 := blk_cell bB 7 _ rfl
  by_cases e7 : m1 = m2
  · have hrt : r = true := by rw [HR.out, decide_eq_true e7]; rfl
    subst hrt e7
    clear HR
    go_wp2
    go_ret
    exact ⟨rfl, hb0⟩
  · have hrf : r = false := by rw [HR.out, decide_eq_false e7]; rfl
    have hh : (m1 == m2) = false := by simpa using e7
    subst hrf
    clear HR
    go_wp2
    go_ret
    exact ⟨rfl, hb0⟩

set_option maxHeartbeats 6400000 in
set_option maxRecDepth 100000 in
theorem equalSail_any (ao bo : Option Addr) (N c M d : Nat) (S T : Nat → Sail) (w : World) (hN : N ≤ 1048576) (hM : M ≤ 1048576) (hs : ShortAll N S 1048576) (ht : ShortAll M T 1048576) (hx : SailsAt w ao N S) (hy : SailsAt w bo M T) :
    Calls Tryz.prog 40 #[.slice ao N c, .slice bo M d, .func (.func 41) #[] #[]] w fun e w' => e = .returned (.bool (sailsEq N M S T)) ∧ Below w.heap.size w w' := by
  by_cases hnm : N = M
  case neg =>
    have e1 : sailsEq N M S T = false := decide_eq_false (fun h => hnm h.1)
    rw [e1]
    have e2 : ((N : Int) = (M : Int)) = False := by simp; omega
    go_enter Tryz.func40, Tryz.ntmps40
    go_wp2
    go_ret
    exact ⟨rfl, Below.refl _ _⟩
  subst hnm
  have HX : Hid (SailsAt w ao N S) := hx
  have HY : Hid (SailsAt w bo N T) := hy
  have HS : Hid (ShortAll N S 1048576) := hs
  have HT : Hid (ShortAll N T 1048576) := ht
  clear hx hy hs ht
  obtain ⟨q, hq⟩ : ∃ q : Bool, q = sailsEq N N S T := ⟨_, rfl⟩
  have HQ : Hid (q = true ↔ ∀ i, i < N → SailEq (S i) (T i)) := by rw [hq]; exact ⟨fun h => (of_decide_eq_true h).2, fun h => decide_eq_true ⟨rfl, h⟩⟩
  rw [← hq]
  clear hq
  go_enter Tryz.func40, Tryz.ntmps40
  go_wp2
  go_loopw [7, 8, 9, 17] (fun _ _ _ i wr => ∃ k : Nat, k ≤ N ∧ i = .int .i64 k ∧ (∀ j, j < k → SailEq (S j) (T j)) ∧ Below w.heap.size w wr) (fun _ _ _ i _ => N - (intOf i).toNat)
  case atStart => exact ⟨0, Nat.zero_le _, rfl, fun j hj => absurd hj (Nat.not_lt_zero _), Below.refl _ _⟩
  case round =>
    obtain ⟨k, hk, rfl, hal, hbel⟩ := hrel
    have HA : Hid (∀ j, j < k → SailEq (S j) (T j)) := hal
    clear hal
    by_cases hlt : k < N
    · obtain ⟨b, off, la, lc, ca, cc, rfl, g0, g1, g2, g3, g4, g5, g6, g7, k1, k2, z1, z2⟩ := HX.out k hlt
      obtain ⟨b2, off2, la', lc', ca', cc', rfl, f0, f1, f2, f3, f4, f5, f6, f7, k3, k4, z3, z4⟩ := HY.out k hlt
      have l1 : b < w.heap.size := World.block_lt_of_cell? w _ g0
      have l2 : b2 < w.heap.size := World.block_lt_of_cell? w _ f0
      have HK : Hid ((PairsAt w la (S k).la ∧ PairsAt w ca (S k).ca) ∧ PairsAt w la' (T k).la ∧ PairsAt w ca' (T k).ca) := ⟨⟨k1, k2⟩, k3, k4⟩
      have HN : Hid (((S k).la.n ≤ 1048576 ∧ (S k).ca.n ≤ 1048576) ∧ (T k).la.n ≤ 1048576 ∧ (T k).ca.n ≤ 1048576) := ⟨⟨(HS.out k hlt).2.2.1, (HS.out k hlt).2.2.2⟩, (HT.out k hlt).2.2.1, (HT.out k hlt).2.2.2⟩
      clear k1 k2 k3 k4 z1 z2 z3 z4
      have c0 : wr.cell? ⟨b, off + k * 8, none⟩ = some (.int .i64 (S k).id) := (hbel.cell (p := ⟨b, off + k * 8, none⟩) l1).trans g0
      have d0 : wr.cell? ⟨b2, off2 + k * 8, none⟩ = some (.int .i64 (T k).id) := (hbel.cell (p := ⟨b2, off2 + k * 8, none⟩) l2).trans f0
      have c1 : wr.cell? ⟨b, off + k * 8 + 1, none⟩ = some (.string (S k).fr) := (hbel.cell (p := ⟨b, off + k * 8 + 1, none⟩) l1).trans g1
      have d1 : wr.cell? ⟨b2, off2 + k * 8 + 1, none⟩ = some (.string (T k).fr) := (hbel.cell (p := ⟨b2, off2 + k * 8 + 1, none⟩) l2).trans f1
      have c2 : wr.cell? ⟨b, off + k * 8 + 2, none⟩ = some (.string (S k).dst) := (hbel.cell (p := ⟨b, off + k * 8 + 2, none⟩) l1).trans g2
      have d2 : wr.cell? ⟨b2, off2 + k * 8 + 2, none⟩ = some (.string (T k).dst) := (hbel.cell (p := ⟨b2, off2 + k * 8 + 2, none⟩) l2).trans f2
      have c3 : wr.cell? ⟨b, off + k * 8 + 3, none⟩ = some (.int .i64 (S k).dep) := (hbel.cell (p := ⟨b, off + k * 8 + 3, none⟩) l1).trans g3
      have d3 : wr.cell? ⟨b2, off2 + k * 8 + 3, none⟩ = some (.int .i64 (T k).dep) := (hbel.cell (p := ⟨b2, off2 + k * 8 + 3, none⟩) l2).trans f3
      have c4 : wr.cell? ⟨b, off + k * 8 + 4, none⟩ = some (.int .i64 (S k).arr) := (hbel.cell (p := ⟨b, off + k * 8 + 4, none⟩) l1).trans g4
      have d4 : wr.cell? ⟨b2, off2 + k * 8 + 4, none⟩ = some (.int .i64 (T k).arr) := (hbel.cell (p := ⟨b2, off2 + k * 8 + 4, none⟩) l2).trans f4
      have c5 : wr.cell? ⟨b, off + k * 8 + 5, none⟩ = some (.slice la (S k).la.n lc) := (hbel.cell (p := ⟨b, off + k * 8 + 5, none⟩) l1).trans g5
      have d5 : wr.cell? ⟨b2, off2 + k * 8 + 5, none⟩ = some (.slice la' (T k).la.n lc') := (hbel.cell (p := ⟨b2, off2 + k * 8 + 5, none⟩) l2).trans f5
      have c6 : wr.cell? ⟨b, off + k * 8 + 6, none⟩ = some (.slice ca (S k).ca.n cc) := (hbel.cell (p := ⟨b, off + k * 8 + 6, none⟩) l1).trans g6
      have d6 : wr.cell? ⟨b2, off2 + k * 8 + 6, none⟩ = some (.slice ca' (T k).ca.n cc') := (hbel.cell (p := ⟨b2, off2 + k * 8 + 6, none⟩) l2).trans f6
      have c7 : wr.cell? ⟨b, off + k * 8 + 7, none⟩ = some (.int .i64 (S k).most) := (hbel.cell (p := ⟨b, off + k * 8 + 7, none⟩) l1).trans g7
      have d7 : wr.cell? ⟨b2, off2 + k * 8 + 7, none⟩ = some (.int .i64 (T k).most) := (hbel.cell (p := ⟨b2, off2 + k * 8 + 7, none⟩) l2).trans f7
      clear g0 f0 g1 f1 g2 f2 g3 f3 g4 f4 g5 f5 g6 f6 g7 f7
      go_upto_region 6 with fail
      generalize hB : wr.alloc (.cells #[.int .i64 (S k).id, .string (S k).fr, .string (S k).dst, .int .i64 (S k).dep, .int .i64 (S k).arr, .slice la (S k).la.n lc, .slice ca (S k).ca.n cc, .int .i64 (S k).most] 50) = W at *
      have hbw : Below wr.heap.size wr W := by rw [← hB]; exact push (Below.refl _ _) _
      have bB : W.heap[wr.heap.size]? = some (.cells #[.int .i64 (S k).id, .string (S k).fr, .string (S k).dst, .int .i64 (S k).dep, .int .i64 (S k).arr, .slice la (S k).la.n lc, .slice ca (S k).ca.n cc, .int .i64 (S k).most] 50 (0, 0)) := by rw [← hB]; exact heap_alloc_new _ _
      have l3 : b2 < wr.heap.size := by have := hbel.size; omega
      replace d0 := (hbw.cell (p := ⟨b2, off2 + k * 8, none⟩) l3).trans d0
      replace d1 := (hbw.cell (p := ⟨b2, off2 + k * 8 + 1, none⟩) l3).trans d1
      replace d2 := (hbw.cell (p := ⟨b2, off2 + k * 8 + 2, none⟩) l3).trans d2
      replace d3 := (hbw.cell (p := ⟨b2, off2 + k * 8 + 3, none⟩) l3).trans d3
      replace d4 := (hbw.cell (p := ⟨b2, off2 + k * 8 + 4, none⟩) l3).trans d4
      replace d5 := (hbw.cell (p := ⟨b2, off2 + k * 8 + 5, none⟩) l3).trans d5
      replace d6 := (hbw.cell (p := ⟨b2, off2 + k * 8 + 6, none⟩) l3).trans d6
      replace d7 := (hbw.cell (p := ⟨b2, off2 + k * 8 + 7, none⟩) l3).trans d7
      clear hB c0 c1 c2 c3 c4 c5 c6 c7
      go_upto_region 7 with fail
      generalize hB : W.alloc (.cells #[.int .i64 (T k).id, .string (T k).fr, .string (T k).dst, .int .i64 (T k).dep, .int .i64 (T k).arr, .slice la' (T k).la.n lc', .slice ca' (T k).ca.n cc', .int .i64 (T k).most] 50) = V at *
      have hbv : Below W.heap.size W V := by rw [← hB]; exact push (Below.refl _ _) _
      have bA : V.heap[W.heap.size]? = some (.cells #[.int .i64 (T k).id, .string (T k).fr, .string (T k).dst, .int .i64 (T k).dep, .int .i64 (T k).arr, .slice la' (T k).la.n lc', .slice ca' (T k).ca.n cc', .int .i64 (T k).most] 50 (0, 0)) := by rw [← hB]; exact heap_alloc_new _ _
      replace bB := blk_below bB hbv
      have hb3 : Below w.heap.size w V := after (after hbel hbw) hbv
      clear hB d0 d1 d2 d3 d4 d5 d6 d7 hbw hbv
      refine wp_region_lit ?_
      refine Go.Great.wpList_runTo rfl _ rfl _ _ (show _ = _ from rfl) ?_
      refine wpList_load_row rfl _ _ rfl wr.heap.size rfl _ _ (0, 0) _ bB Tryz.underlying50 rfl (by kernel_rfl) ?_
      refine wpList_load_row rfl _ _ rfl W.heap.size rfl _ _ (0, 0) _ bA Tryz.underlying50 rfl (by kernel_rfl) ?_
      clear bB bA
      obtain ⟨p, hp⟩ : ∃ p : Bool, p = decide (SailEq ⟨(S k).id, (S k).fr, (S k).dst, (S k).dep, (S k).arr, (S k).la, (S k).ca, (S k).most⟩ ⟨(T k).id, (T k).fr, (T k).dst, (T k).dep, (T k).arr, (T k).la, (T k).ca, (T k).most⟩) := ⟨_, rfl⟩
      have HP : Hid (p = true ↔ SailEq (S k) (T k)) := by rw [hp]; exact decide_eq_true_iff
      have HPD : Hid (p = decide (SailEq ⟨(S k).id, (S k).fr, (S k).dst, (S k).dep, (S k).arr, (S k).la, (S k).ca, (S k).most⟩ ⟨(T k).id, (T k).fr, (T k).dst, (T k).dep, (T k).arr, (T k).la, (T k).ca, (T k).most⟩)) := hp
      clear hp
      go_wp2_with fail
      refine (sameSailing_raw (S k).id (S k).fr (S k).dst (S k).dep (S k).arr (S k).la (S k).ca (S k).most la ca lc cc (T k).id (T k).fr (T k).dst (T k).dep (T k).arr (T k).la (T k).ca (T k).most la' ca' lc' cc' _ HN.out.1.1 HN.out.1.2 HN.out.2.1 HN.out.2.2 (HK.out.1.1.below hb3) (HK.out.1.2.below hb3) (HK.out.2.1.below hb3) (HK.out.2.2.below hb3)).mono ?_
      rintro e w9 ⟨he, hb9⟩
      rw [← HPD.out] at he
      subst he
      clear HPD
      cases p with
      | true =>
        go_wp2
        go_roundw
        case rel =>
          refine ⟨k + 1, by omega, by go_num, fun j hj => ?_, after hb3 hb9⟩
          by_cases e : j = k
          · subst e; exact HP.out.1 (by first | rfl | trivial)
          · exact HA.out j (by omega)
        case measure => simp [intOf]; omega
      | false =>
        have hqf : q = false := by
          cases q with
          | false => rfl
          | true => exact absurd (HP.out.2 (HQ.out.1 rfl k hlt)) (by decide)
        subst hqf
        go_wp2
        go_ret
        exact ⟨rfl, after hb3 hb9⟩
    · obtain rfl : k = N := by omega
      have hqt : q = true := HQ.out.2 HA.out
      subst hqt
      go_wp2
      go_ret
      exact ⟨rfl, hbel⟩

noncomputable def pcOk (x y : Off) : Bool := decide (PcOk x y)
set_option maxHeartbeats 3200000 in
set_option maxRecDepth 100000 in
theorem sailAlike_any (x y : Off) (asa ald abk asa' ald' abk' : Option Addr) (csa cld cbk csa' cld' cbk' : Nat) (w : World) (hn : x.san ≤ 1048576) (hm : y.san ≤ 1048576) (hs : ShortAll x.san x.sa 1048576) (ht : ShortAll y.san y.sa 1048576) (hx : SailsAt w asa x.san x.sa) (hy : SailsAt w asa' y.san y.sa) :
    Calls Tryz.prog 22 #[.agg #[.slice asa x.san csa, .slice ald x.ldn cld, .slice abk x.bkn cbk], .agg #[.slice asa' y.san csa', .slice ald' y.ldn cld', .slice abk' y.bkn cbk']] w fun e w' => e = .returned (.bool (pcOk x y)) ∧ Below w.heap.size w w' := by
  have HX : Hid (SailsAt w asa x.san x.sa) := hx
  have HY : Hid (SailsAt w asa' y.san y.sa) := hy
  have HS : Hid (ShortAll x.san x.sa 1048576) := hs
  have HT : Hid (ShortAll y.san y.sa 1048576) := ht
  clear hx hy hs ht
  obtain ⟨q, hq⟩ : ∃ q : Bool, q = pcOk x y := ⟨_, rfl⟩
  have HQ : Hid (q = true ↔ PcOk x y) := by rw [hq]; exact decide_eq_true_iff
  rw [← hq]
  clear hq
  have hb0 : Below w.heap.size w ((w.alloc (.cells #[.slice asa x.san csa, .slice ald x.ldn cld, .slice abk x.bkn cbk] 35)).alloc (.cells #[.slice asa' y.san csa', .slice ald' y.ldn cld', .slice abk' y.bkn cbk'] 35)) := push (push (Below.refl _ _) _) _
  have bA : ((w.alloc (.cells #[.slice asa x.san csa, .slice ald x.ldn cld, .slice abk x.bkn cbk] 35)).alloc (.cells #[.slice asa' y.san csa', .slice ald' y.ldn cld', .slice abk' y.bkn cbk'] 35)).heap[w.heap.size]? = some (.cells #[.slice asa x.san csa, .slice ald x.ldn cld, .slice abk x.bkn cbk] 35 (0, 0)) := blk_alloc (heap_alloc_new w _) _
  have bB : ((w.alloc (.cells #[.slice asa x.san csa, .slice ald x.ldn cld, .slice abk x.bkn cbk] 35)).alloc (.cells #[.slice asa' y.san csa', .slice ald' y.ldn cld', .slice abk' y.bkn cbk'] 35)).heap[w.heap.size + 1]? = some (.cells #[.slice asa' y.san csa', .slice ald' y.ldn cld', .slice abk' y.bkn cbk'] 35 (0, 0)) := by simpa using heap_alloc_new (w.alloc _) _
  go_enter Tryz.func22, Tryz.ntmps22
  go_wp2_with fail
  generalize (w.alloc (.cells #[.slice asa x.san csa, .slice ald x.ldn cld, .slice abk x.bkn cbk] 35)).alloc (.cells #[.slice asa' y.san csa', .slice ald' y.ldn cld', .slice abk' y.bkn cbk'] 35) = V at hb0 bA bB ⊢
  refine (implTab_any asa x.san csa x.sa _ hn HS.out (HX.out.below hb0)).mono ?_
  rintro e w1 ⟨⟨t0, rfl, ht0⟩, hb1⟩
  have HT0 : Hid (t0 = true ↔ GoodTab x.san x.sa) := ht0
  replace bA := blk_below bA hb1
  replace bB := blk_below bB hb1
  replace hb0 := after hb0 hb1
  clear hb1 ht0
  cases t0 with
  | false =>
    have hqf : q = false := by
      cases q with
      | false => rfl
      | true => exact absurd (HT0.out.2 (HQ.out.1 rfl).1) (by decide)
    subst hqf
    clear HQ HT0
    go_wp2
    go_ret
    exact ⟨rfl, hb0⟩
  | true =>
  have HG : Hid (GoodTab x.san x.sa) := HT0.out.1 rfl
  clear HT0
  have x0 := blk_cell bA 0 _ rfl
  have y0 := blk_cell bB 0 _ rfl
  obtain ⟨u, hu⟩ : ∃ u : Bool, u = sailsEq x.san y.san x.sa y.sa := ⟨_, rfl⟩
  have HU : Hid (u = true ↔ SailsEq x.san y.san x.sa y.sa) := by rw [hu]; exact decide_eq_true_iff
  have HUE : Hid (sailsEq x.san y.san x.sa y.sa = u) := hu.symm
  clear hu
  go_wp2_with fail
  refine (equalSail_any asa asa' x.san csa y.san csa' x.sa y.sa _ hn hm HS.out HT.out (HX.out.below hb0) (HY.out.below hb0)).mono ?_
  rintro e w2 ⟨he, hb1⟩
  rw [HUE.out] at he
  subst he
  replace bA := blk_below bA hb1
  replace bB := blk_below bB hb1
  replace hb0 := after hb0 hb1
  clear hb1 HUE x0 y0
  cases u with
  | false =>
    have hqf : q = false := by
      cases q with
      | false => rfl
      | true => exact absurd (HU.out.2 (HQ.out.1 rfl).2.1) (by decide)
    subst hqf
    clear HQ HU
    go_wp2
    go_ret
    exact ⟨rfl, hb0⟩
  | true =>
  have HE : Hid (SailsEq x.san y.san x.sa y.sa) := HU.out.1 rfl
  clear HU
  have x0 := blk_cell bA 0 _ rfl
  have y0 := blk_cell bB 0 _ rfl
  have x1 := blk_cell bA 1 _ rfl
  have y1 := blk_cell bB 1 _ rfl
  by_cases e1 : x.ldn = x.san
  case neg =>
    have hqf : q = false := by
      cases q with
      | false => rfl
      | true => exact absurd (HQ.out.1 rfl).2.2.1 e1
    have hh : ((x.ldn : Int) == (x.san : Int)) = false := by simp; omega
    subst hqf
    clear HQ e1
    go_wp2
    go_ret
    exact ⟨rfl, hb0⟩
  have hh1 : ((x.ldn : Int) == (x.san : Int)) = true := by simp; omega
  by_cases e2 : y.ldn = y.san
  case neg =>
    have hqf : q = false := by
      cases q with
      | false => rfl
      | true => exact absurd (HQ.out.1 rfl).2.2.2 e2
    have hh : ((y.ldn : Int) == (y.san : Int)) = false := by simp; omega
    subst hqf
    clear HQ e1 e2
    go_wp2
    go_ret
    exact ⟨rfl, hb0⟩
  have hh2 : ((y.ldn : Int) == (y.san : Int)) = true := by simp; omega
  have hqt : q = true := HQ.out.2 ⟨HG.out, HE.out, e1, e2⟩
  subst hqt
  clear HQ e1 e2
  go_wp2
  go_ret
  exact ⟨rfl, hb0⟩

end Go.Proofs.YtcioofnmhfehaaaGreat
