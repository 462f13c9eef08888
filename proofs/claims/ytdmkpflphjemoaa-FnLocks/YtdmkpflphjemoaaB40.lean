/-
  OWN TEXT: SameN, LawLocks.
-/
import Derived.Test.YtdmkpflphjemoaaRows
import Derived.Test.YtdmkpflphjemoaaB00
import Derived.Test.YtdmkpflphjemoaaB09
import Derived.Test.YtdmkpflphjemoaaB32
import Derived.Test.YtdmkpflphjemoaaB34
import Derived.Test.YtdmkpflphjemoaaB39
namespace Go.Proofs.Ytdmkpflphjemoaa
open Go.RowKit

theorem sameInts_same (ao bo : Option Addr) (n c1 c2 : Nat) (f : Nat → Int) (w : World) (hn : n ≤ 1048576) (hx : IntsAt w ao n f) (hy : IntsAt w bo n f) :
    Calls Try.prog 14 #[.slice ao n c1, .slice bo n c2] w fun e w' => e = .returned (.bool true) ∧ Below w.heap.size w w' := by
  go_enter Try.func14, Try.ntmps14
  go_wp2
  go_loopw [5, 13] (fun _ i wr => ∃ k : Nat, k ≤ n ∧ i = .int .i64 k ∧ Below w.heap.size w wr) (fun _ i _ => n - (intOf i).toNat)
  case atStart => exact ⟨0, Nat.zero_le _, rfl, Below.refl _ _⟩
  case round =>
    obtain ⟨k, hk, rfl, hbel⟩ := hrel
    by_cases hlt : k < n
    · obtain ⟨b, off, rfl, hc⟩ := hx k (by omega)
      obtain ⟨b2, off2, rfl, hd⟩ := hy k (by omega)
      have hc' : wr.cell? ⟨b, off + k, none⟩ = some (.int .i64 (f k)) := (hbel.cell (World.block_lt_of_cell? w _ hc)).trans hc
      have hd' : wr.cell? ⟨b2, off2 + k, none⟩ = some (.int .i64 (f k)) := (hbel.cell (World.block_lt_of_cell? w _ hd)).trans hd
      clear hc hd
      go_wp2
      go_quiet (fail)
      go_wp2
      go_roundw
      case rel => exact ⟨k + 1, by omega, by go_num, below_drewN hbel _⟩
      case measure => simp [intOf]; omega
    · go_wp2
      go_ret
      exact ⟨rfl, hbel⟩

end Go.Proofs.Ytdmkpflphjemoaa

namespace Go.Proofs.Ytdmkpflphjemoaa
open Go.RowKit

theorem LocksR.at {u : World} {cb : Nat} {v : Value} (h : LocksR u cb v) : ∃ (b : Option Addr) (N d : Nat) (K : Nat → Int) (H Q : Nat → Line), v = .slice b N d ∧ N ≤ d ∧ N ≤ 1048576 ∧ ShortTo N H Q 1048576 ∧ ∀ u', Below u.heap.size u u' → LocksAt u' b N K H Q := by
  obtain ⟨b, N, d, K, H, Q, e, h1, h2, h3, h4⟩ := h
  exact ⟨b, N, d, K, H, Q, e, h1, by omega, fun i hi => by have := h3 i hi; omega, fun u' hb => h4 u' (Kept.of_below hb)⟩
theorem waitAns_yes {N : Nat} {K : Nat → Int} {Q : Nat → Line} {x y : Int} {b : Bool} {P : Prop} (h : WaitAns P N K Q x y b) : WaitAns P N K Q x y b := h
/-- What WaitsAt answers behind an ask. -/
theorem ask_waits {x key y : Int} {ls : List LockW} {ok b : Bool} (h : AskLeft x key ls ok) (hw : WaitAns (GoodI ls.length (keyF ls) (heldF ls) (queueF ls)) ls.length (keyF ls) (queueF ls) x y b) : b = !ok ∧ (ok = false → y = key) := by
  cases ok with
  | true => exact ⟨waits_none (h.holds rfl).1 hw, fun e => by cases e⟩
  | false =>
    obtain ⟨l1, a, l2, rfl, rfl, h1, h2⟩ := h.waits rfl
    obtain ⟨rfl, rfl⟩ := waits_at h.good.good h1 h2 hw
    exact ⟨rfl, fun _ => rfl⟩
theorem ask_keys {x key : Int} {ls : List LockW} (h : AskLeft x key ls true) : 0 < (keysTo (keyF ls) (heldF ls) x ls.length).length ∧ getI (keysTo (keyF ls) (heldF ls) x ls.length) ((keysTo (keyF ls) (heldF ls) x ls.length).length - 1) = key := by
  obtain ⟨_, l1, a, l2, rfl, rfl, h1, h2⟩ := h.holds rfl
  exact keys_last h1 h2

set_option maxHeartbeats 6400000 in
set_option maxRecDepth 100000 in
theorem lawLocks (ao : Option Addr) (n c : Nat) (bo : Option Addr) (m d : Nat) (w : World) (hn : n ≤ 1000000000000000) (hx : BytesAt w ao n) (hm : m ≤ 1000000000000000) (hy : BytesAt w bo m) :
    Calls Try.prog 3 #[.slice ao n c, .slice bo m d] w fun e w' => e = .returned (.bool true) ∧ Below w.heap.size w w' := by
  have hw0 : IntKind.i64.wrap ((n : Int) + (m : Int)) = (n : Int) + (m : Int) := by rw [IntKind.wrap_i64]; omega
  have HX : Hid (BytesAt w ao n) := hx
  have HY : Hid (BytesAt w bo m) := hy
  clear hx hy
  by_cases hf : n + m ≤ 1048576
  · have d0 : decide ((1048576 : Int) < (n : Int) + (m : Int)) = false := decide_eq_false (by omega)
    have d0' : ¬ (1048576 : Int) < (n : Int) + (m : Int) := by omega
    go_enter Try.func3, Try.ntmps3
    go_wp2_with fail
    refine (drawAsk_any ao n c w HX.out).mono ?_
    rintro e w1 ⟨⟨v, x, key, s, rfl, hR⟩, hb1⟩
    obtain ⟨b, N, dd, K, H, Q, rfl, hNd, hN, hsh, hz⟩ := hR.at
    have HSH : Hid (ShortTo N H Q 1048576) := hsh
    have HZ : Hid (∀ u', Below w1.heap.size w1 u' → LocksAt u' b N K H Q) := hz
    have HB1 : Hid (Below w.heap.size w w1) := hb1
    clear hR hsh hz hb1
    go_wp2_with fail
    refine (implAsk_any b N dd K H Q x key s w1 hN HSH.out (HZ.out _ (Below.refl _ _))).mono ?_
    rintro e w2 ⟨⟨v2, ls, ok, code, rfl, hL, hans⟩, hb2⟩
    obtain ⟨a2, c2, rfl, _, _⟩ := hL.form
    obtain ⟨hl61, hls⟩ := askAns_short hans.out
    have HSL : Hid (ShortTo ls.length (heldF ls) (queueF ls) 1048576) := fun i hi => by have := hls.to i hi; omega
    have HL2 : Hid (LocksL w2 w1.heap.size (.slice a2 ls.length c2) ls) := hL
    have HA2 : Hid (AskAns N K H Q x key s ls ok code) := hans
    have HB2 : Hid (Below w1.heap.size w1 w2) := hb2
    clear hL hans hb2 hls
    go_wp2_with fail
    refine (specAsk_any b N dd K H Q x key s w2 hN hNd HSH.out (HZ.out _ HB2.out)).mono ?_
    rintro e w3 ⟨⟨a3, c3, ls3, ok3, code3, rfl, _, hans3⟩, hb3⟩
    obtain ⟨rfl, rfl, rfl⟩ := askAns_one hans3.out HA2.out
    have HB3 : Hid (Below w.heap.size w w3) := after HB1.out (after HB2.out hb3)
    have HL3 : Hid (∀ u', Below w3.heap.size w3 u' → LocksAt u' a2 ls.length (keyF ls) (heldF ls) (queueF ls)) := fun u' h => by
      obtain ⟨_, _, e, h5, _⟩ := (HL2.out.below (after hb3 h)).form
      cases e
      exact h5
    clear hans3 hb3 HL2 HZ HSH
    have n1 : (code != code) = false := by simp
    have n2 : (ok != ok) = false := by simp
    go_upto_region 8 with fail
    go_upto_if 73 with fail
    go_cut [] (fun wx => Below w.heap.size w wx)
    case first =>
      by_cases hc : code = 0
      · obtain ⟨hleft, htask⟩ := ask_left HA2.out hc
        have HLF : Hid (AskLeft x key ls ok) := hleft
        have HT : Hid (isTask x) := htask
        clear hleft htask
        subst hc
        go_wp2_with fail
        refine (implWaitsAt_any a2 ls.length c2 (keyF ls) (heldF ls) (queueF ls) x w3 (by omega) HSL.out (HL3.out _ (Below.refl _ _))).mono ?_
        rintro e w4 ⟨⟨y, wt, rfl, hwt⟩, hb4⟩
        obtain ⟨hwb, hwy⟩ := ask_waits HLF.out hwt.out
        subst hwb
        have HWY : Hid (ok = false → y = key) := hwy
        clear hwy hwt
        go_wp2_with fail
        refine (implCycle_any a2 ls.length c2 (keyF ls) (heldF ls) (queueF ls) w4 (by omega) HSL.out (HL3.out _ hb4)).mono ?_
        rintro e w5 ⟨⟨cy, is, rfl, hcy⟩, hb5⟩
        obtain ⟨rfl, his⟩ := hcy.out
        obtain rfl : is = true := his.2 HLF.out.good.good
        clear hcy his
        have hb5' := after hb4 hb5
        clear hb4 hb5
        go_upto_region 11 with fail
        go_cut [107] (fun v wx => v = .bool false ∧ Below w3.heap.size w3 wx)
        case first =>
          go_wp2_with fail
          refine (implLocks_any a2 ls.length c2 (keyF ls) (heldF ls) (queueF ls) w5 HSL.out (by omega) (HL3.out _ hb5')).mono ?_
          rintro e w6 ⟨⟨gd, rfl, hgd⟩, hb6⟩
          obtain rfl : gd = true := hgd.2 HLF.out.good.good
          clear hgd
          have hb6' := after hb5' hb6
          clear hb5' hb6
          cases ok with
          | true =>
            go_wp2
            go_meet
            exact ⟨rfl, hb6'⟩
          | false =>
            obtain rfl := HWY.out rfl
            have n3 : (y != y) = false := by simp
            go_wp2
            go_meet
            exact ⟨rfl, hb6'⟩
        case rest =>
        obtain ⟨rfl, hb6⟩ := hcut
        clear hb5'
        go_wp2_with fail
        refine (implKeys_any a2 ls.length c2 (keyF ls) (heldF ls) (queueF ls) x _ (by omega) HSL.out (HL3.out _ hb6)).mono ?_
        rintro e w7 ⟨⟨v7, ok7, ks, rfl, hks, hka⟩, hb7⟩
        obtain ⟨hk1, rfl⟩ := hka.out.1 ⟨HLF.out.good.good, HT.out⟩
        obtain ⟨a7, c7, rfl, _⟩ := own_form hks
        have hb7' := after HB3.out (after hb6 hb7)
        clear hb6 hb7 hka
        cases ok with
        | false =>
          go_wp2
          go_meet
          exact hb7'
        | true =>
          obtain ⟨hk2, hk3⟩ := ask_keys HLF.out
          rw [← hk1] at hk2 hk3
          have hkl : ks.length ≤ 61 := by rw [hk1]; exact Nat.le_trans (keysTo_le _ _ _ _) hl61
          obtain ⟨g7, rfl, _, _⟩ := own_addr hks hk2
          have hcell := own_cell (N := ks.length) hks (ks.length - 1) (by omega) (by omega)
          rw [hk3] at hcell
          clear hk1 hks hk3
          have e0 : ((ks.length : Int) == 0) = false := beq_eq_false_iff_ne.2 (by omega)
          have hw7 : IntKind.i64.wrap ((ks.length : Int) - 1) = ((ks.length - 1 : Nat) : Int) := by rw [IntKind.wrap_i64]; omega
          have h71 : ((ks.length - 1 : Nat) : Int) < (ks.length : Int) := by omega
          have n4 : (key != key) = false := by simp
          generalize ks.length - 1 = kp at *
          go_wp2
          go_meet
          exact hb7'
      · have dz : (code == 0) = false := by simpa using hc
        go_wp2
        go_meet
        exact HB3.out
    case rest =>
    have HBC : Hid (Below w.heap.size w _) := hcut
    clear hcut HL3 HB3 HSL HA2 HB2 HB1 n1 n2 hl61 hN hNd
    go_wp2_with fail
    refine (drawLeave_any bo m d _ (HY.out.below HBC.out)).mono ?_
    rintro e v1 ⟨⟨v, t, rfl, hR⟩, hb1⟩
    obtain ⟨b5, N5, d5, K5, H5, Q5, rfl, hNd, hN, hsh, hz⟩ := hR.at
    have HSH : Hid (ShortTo N5 H5 Q5 1048576) := hsh
    have HZ : Hid (∀ u', Below v1.heap.size v1 u' → LocksAt u' b5 N5 K5 H5 Q5) := hz
    have HB1 : Hid (Below w.heap.size w v1) := after HBC.out hb1
    clear hR hsh hz hb1 HBC
    go_wp2_with fail
    refine (leaveLoop_any b5 N5 d5 K5 H5 Q5 t v1 hN HSH.out (HZ.out _ (Below.refl _ _))).mono ?_
    rintro e v2 ⟨⟨vl, vi, l5, es, code5, rfl, hL, hI, hans⟩, hb2⟩
    obtain ⟨a6, c6, rfl, _, _⟩ := hL.form
    obtain ⟨a7, c7, rfl, _⟩ := own_form hI
    obtain ⟨hl60, hls, hes⟩ := leaveAns_short hans.out
    have HSL : Hid (ShortTo l5.length (heldF l5) (queueF l5) 1048576) := fun i hi => by have := hls.to i hi; omega
    have HL2 : Hid (LocksL v2 v1.heap.size (.slice a6 l5.length c6) l5) := hL
    have HA2 : Hid (LeaveAns N5 K5 H5 Q5 t l5 es code5) := hans
    have HI2 : Hid (WaitsIs v2 v1.heap.size (.slice a7 es.length c7) es) := hI
    have HB2 : Hid (Below v1.heap.size v1 v2) := hb2
    clear hL hans hb2 hls hI
    go_wp2_with fail
    refine (specLeave_any b5 N5 d5 K5 H5 Q5 t v2 hN hNd HSH.out (HZ.out _ HB2.out)).mono ?_
    rintro e v3 ⟨⟨a8, c8, vj, l6, es6, code6, rfl, _, hJ, hans3⟩, hb3⟩
    obtain ⟨rfl, rfl, rfl⟩ := leaveAns_one hans3.out HA2.out
    obtain ⟨a9, c9, rfl, _⟩ := own_form hJ
    have HB3 : Hid (Below w.heap.size w v3) := after HB1.out (after HB2.out hb3)
    have HI3 : Hid (IntsAt v3 a7 es.length (getI es)) := (WaitsIs.below HI2.out hb3).ints
    have HJ3 : Hid (IntsAt v3 a9 es.length (getI es)) := WaitsIs.ints hJ
    have HL3 : Hid (∀ u', Below v3.heap.size v3 u' → LocksAt u' a6 l5.length (keyF l5) (heldF l5) (queueF l5)) := fun u' h => by
      obtain ⟨_, _, e, h5, _⟩ := (HL2.out.below (after hb3 h)).form
      cases e
      exact h5
    clear hans3 hb3 HL2 HZ HSH HB1 HB2 HI2 hJ
    have n1 : (code5 != code5) = false := by simp
    go_upto_region 19 with fail
    go_cut [157] (fun v wx => v = .bool false ∧ Below v3.heap.size v3 wx)
    case first =>
      go_wp2_with fail
      refine (sameInts_same a7 a9 es.length c7 c9 (getI es) _ (by omega) HI3.out HJ3.out).mono ?_
      rintro e v4 ⟨rfl, hb4⟩
      go_wp2
      go_meet
      exact ⟨rfl, hb4⟩
    case rest =>
    obtain ⟨rfl, hb4⟩ := hcut
    clear HI3 HJ3
    by_cases hc : code5 = 0
    · obtain ⟨⟨hgood, hnone⟩, htask⟩ := leave_left HA2.out hc
      have HG : Hid (GoodP l5) := hgood
      have HN : Hid (∀ b ∈ l5, t ∉ tk b.2.1 ∧ t ∉ tk b.2.2) := hnone
      have HT : Hid (isTask t) := htask
      clear hgood hnone htask
      subst hc
      go_wp2_with fail
      refine (implKeys_any a6 l5.length c6 (keyF l5) (heldF l5) (queueF l5) t _ (by omega) HSL.out (HL3.out _ hb4)).mono ?_
      rintro e v5 ⟨⟨vk, ok5, ks, rfl, hks, hka⟩, hb5⟩
      obtain ⟨hk1, rfl⟩ := hka.out.1 ⟨HG.out.good, HT.out⟩
      rw [keys_none (fun b hb => (HN.out b hb).1)] at hk1
      have hk0 : ks.length = 0 := by rw [hk1]; rfl
      obtain ⟨ak, ck, rfl, _⟩ := own_form hks
      rw [hk0]
      clear hk1 hk0
      have hb5' := after hb4 hb5
      clear hb4 hb5 hka hks
      go_wp2_with fail
      refine (implWaitsAt_any a6 l5.length c6 (keyF l5) (heldF l5) (queueF l5) t _ (by omega) HSL.out (HL3.out _ hb5')).mono ?_
      rintro e v6 ⟨⟨y, wt, rfl, hwt⟩, hb6⟩
      obtain rfl : wt = false := waits_none (fun b hb => (HN.out b hb).2) hwt.out
      have hb6' := after hb5' hb6
      clear hwt hb5' hb6
      go_wp2_with fail
      refine (implLocks_any a6 l5.length c6 (keyF l5) (heldF l5) (queueF l5) _ HSL.out (by omega) (HL3.out _ hb6')).mono ?_
      rintro e v7 ⟨⟨gd, rfl, hgd⟩, hb7⟩
      obtain rfl : gd = true := hgd.2 HG.out.good
      have hln : ∀ z : World, (Builtin.len_ #[33] 3 #[.slice ak 0 ck]).run Try.prog z = .ok (.int .i64 0) z := fun z => by simp [go_sem]
      clear hgd
      have hb8 := after HB3.out (after hb6' hb7)
      clear hb6' hb7 HN HT HG HSL HL3 HA2 HB3
      go_wp2
      go_ret
      exact ⟨rfl, hb8⟩
    · have dz : (code5 != 0) = true := by simpa using hc
      go_wp2
      go_ret
      exact ⟨rfl, after HB3.out hb4⟩
  · have d0 : decide ((1048576 : Int) < (n : Int) + (m : Int)) = true := decide_eq_true (by omega)
    have d0' : (1048576 : Int) < (n : Int) + (m : Int) := by omega
    go_enter Try.func3, Try.ntmps3
    go_wp2
    go_ret
    exact ⟨rfl, Below.refl _ _⟩

end Go.Proofs.Ytdmkpflphjemoaa
