/-
  OWN TEXT: InfoI, SpecL2.
-/
import Derived.Test.YtdmkpflphjemoaaRows
import Derived.Deep.LoopGhost
import Derived.Deep.DeepCutAuto
import Derived.Test.YtdmkpflphjemoaaB00
import Derived.Test.YtdmkpflphjemoaaB08
import Derived.Test.YtdmkpflphjemoaaB04
namespace Go.Proofs.Ytdmkpflphjemoaa
open Go.RowKit

theorem Try.infoInt : (Try.prog.info? 3).map (fun i => (i.zero, i.size, i.bytes)) = some (some (.int .i64 0), 1, 8) := by kernel_rfl

end Go.Proofs.Ytdmkpflphjemoaa

namespace Go.Proofs.Ytdmkpflphjemoaa
open Go.RowKit

set_option maxHeartbeats 6400000 in
set_option maxRecDepth 100000 in
theorem specLocks_any (ao : Option Addr) (N c : Nat) (K : Nat → Int) (H Q : Nat → Line) (w : World) (hs : ShortTo N H Q 1048576) (hcap : N ≤ c) (hx : LocksAt w ao N K H Q) :
    Calls Try.prog 26 #[.slice ao N c] w fun e w' => SaysIf (GoodL N K H Q) e ∧ Below w.heap.size w w' := by
  have HS : Hid (ShortTo N H Q 1048576) := hs
  clear hs
  obtain ⟨j0, ji, jz0, jz1, jz2⟩ := info_parts Try.infoInt
  by_cases h60 : N ≤ 60
  · rcases locks_in hx with rfl | ⟨b, off, ha, qa, hc, qc, rfl, hbw, hin⟩
    · go_enter Try.func26, Try.ntmps26
      go_wp2
      go_loopg [17] 1 (fun g i wr => g = 1 ∧ i = .int .i64 0 ∧ wr = w)
      case atStart => exact ⟨rfl, rfl, rfl⟩
      case round =>
        obtain ⟨rfl, rfl, rfl⟩ := hrel
        go_wp2
        go_ret
        exact ⟨says_yes ⟨by omega, fun i hi => by omega⟩, Below.refl _ _⟩
    · clear hx
      have HIN : Hid (LocksIn w b off N K H Q ha qa hc qc) := hin
      clear hin
      go_enter Try.func26, Try.ntmps26
      go_wp2
      go_loopg [3, 17] N (fun g v i wr => ∃ (k : Nat) (wa : Option Addr) (wn wc : Nat), k ≤ N ∧ g = N - k ∧ i = .int .i64 k ∧ v = .slice wa wn wc ∧ WaitsIs wr w.heap.size (.slice wa wn wc) (waited Q k) ∧ (∀ i, i < k → lockOk N K H Q i) ∧ Below w.heap.size w wr)
      case atStart => exact ⟨0, none, 0, 0, Nat.zero_le _, rfl, rfl, rfl, WaitsIs.nil _ _, fun i hi => by omega, Below.refl _ _⟩
      case round =>
        obtain ⟨k, wa, wn, wc0, hk, rfl, rfl, rfl, hwt, hall, hbel⟩ := hrel
        obtain ⟨w1, ew1⟩ : ∃ x, x = wr := ⟨_, rfl⟩
        subst ew1
        have HA : Hid (∀ i, i < k → lockOk N K H Q i) := hall
        clear hall
        by_cases hlt : k < N
        · obtain ⟨c1, c2, c3, _, _, _, _⟩ := HIN.out.below hbel k hlt
          obtain ⟨_, _, _, l1, l2, _, _⟩ := HIN.out k hlt
          generalize ha k = hak at *
          generalize qa k = qak at *
          generalize hc k = hck at *
          generalize qc k = qck at *
          have hbwr : b < w1.heap.size := Nat.lt_of_lt_of_le hbw hbel.size
          have s1 := (HS.out k hlt).1
          have s2 := (HS.out k hlt).2
          go_upto_region 7 with fail
          go_cut [17, 46] (fun i c wx => i = .int .i64 k ∧ Tells (keyOk K k ∧ 0 < (H k).n) c ∧ wx.heap[w1.heap.size]? = some (.cells #[.int .i64 (K k), .slice hak (H k).n hck, .slice qak (Q k).n qck] 60 (0, 0)) ∧ Below w1.heap.size w1 wx)
          case first =>
            have hk2 : ((k : Int) - 1).toNat = k - 1 := by omega
            have hk5 : IntKind.i64.wrap ((k : Int) - 1) = (k : Int) - 1 := by rw [IntKind.wrap_i64]; omega
            have hk3 : (k : Int) - 1 < (N : Int) := by omega
            by_cases ht : isKey (K k)
            · by_cases k0 : k = 0
              · subst k0
                by_cases hn : (H 0).n = 0
                · have e1 : (((H 0).n : Int) == 0) = true := by simpa using hn
                  have e2 : decide ((H 0).n = 0) = true := by simpa using hn
                  clear hk2 hk5 hk3
                  go_quiet (first | (go_at_call 28; refine Calls.quiet_of_same (l2Key_yes _ _ ht)))
                  go_wp2
                  go_meet
                  exact ⟨rfl, tells_bad (fun h => by have := h.2; omega), heap_alloc_new w1 _, below_drewN (push (Below.refl _ _) _) _⟩
                · have e1 : (((H 0).n : Int) == 0) = false := by simpa using hn
                  have e2 : decide ((H 0).n = 0) = false := by simpa using hn
                  clear hk2 hk5 hk3
                  go_quiet (first | (go_at_call 28; refine Calls.quiet_of_same (l2Key_yes _ _ ht)))
                  go_wp2
                  go_meet
                  exact ⟨rfl, tells_good ⟨⟨ht.1, ht.2, fun h => by omega⟩, by omega⟩, heap_alloc_new w1 _, below_drewN (push (Below.refl _ _) _) _⟩
              · have d0 : decide (0 < k) = true := by simp; omega
                have hk4 : (0 : Int) ≤ (k : Int) - 1 := by omega
                have p1 := ((push (Below.refl _ w1) (.cells #[.int .i64 (K k), .slice hak (H k).n hck, .slice qak (Q k).n qck] 60)).cell (p := ⟨b, off + (k - 1) * 3, none⟩) hbwr).trans (HIN.out.below hbel (k - 1) (by omega)).1
                by_cases hle : K k ≤ K (k - 1)
                · have e3 : decide (K k ≤ K (k - 1)) = true := by simpa using hle
                  go_quiet (first | (go_at_call 28; refine Calls.quiet_of_same (l2Key_yes _ _ ht)))
                  go_wp2
                  go_meet
                  exact ⟨rfl, tells_bad (fun h => by have := h.1.2.2 (by omega); omega), heap_alloc_new w1 _, below_drewN (push (Below.refl _ _) _) _⟩
                · have e3 : decide (K k ≤ K (k - 1)) = false := by simpa using hle
                  by_cases hn : (H k).n = 0
                  · have e1 : (((H k).n : Int) == 0) = true := by simpa using hn
                    have HN0 : Hid ((H k).n = 0) := hn
                    clear hn
                    go_quiet (first | (go_at_call 28; refine Calls.quiet_of_same (l2Key_yes _ _ ht)))
                    go_wp2
                    go_meet
                    exact ⟨rfl, tells_bad (fun h => by have := h.2; have := HN0.out; omega), heap_alloc_new w1 _, below_drewN (push (Below.refl _ _) _) _⟩
                  · have e1 : (((H k).n : Int) == 0) = false := by simpa using hn
                    have e2 : decide ((H k).n = 0) = false := by simpa using hn
                    go_quiet (first | (go_at_call 28; refine Calls.quiet_of_same (l2Key_yes _ _ ht)))
                    go_wp2
                    go_meet
                    exact ⟨rfl, tells_good ⟨⟨ht.1, ht.2, fun _ => by omega⟩, by omega⟩, heap_alloc_new w1 _, below_drewN (push (Below.refl _ _) _) _⟩
            · go_quiet (first | (go_at_call 28; refine Calls.quiet_of_same (l2Key_no _ _ ht)))
              go_wp2
              go_meet
              exact ⟨rfl, tells_bad (fun h => ht ⟨h.1.1, h.1.2.1⟩), heap_alloc_new w1 _, below_drewN (push (Below.refl _ _) _) _⟩
          case rest =>
            obtain ⟨rfl, ⟨t, rfl, ht⟩, hbox, hbx⟩ := hcut
            obtain ⟨wx1, ewx1⟩ : ∃ x, x = wc := ⟨_, rfl⟩
            subst ewx1
            have HT : Hid (t = false ↔ keyOk K k ∧ 0 < (H k).n) := ht
            have hwt := hwt.below hbx
            have hbel := after hbel hbx
            clear ht c1 c2 c3
            cases t with
            | true =>
              go_wp2
              go_ret
              exact ⟨says_no (fun h => by have := HT.out.2 ⟨(h.2 k hlt).1, (h.2 k hlt).2.1⟩; cases this), hbel⟩
            | false =>
              have HK : Hid (keyOk K k ∧ 0 < (H k).n) := HT.out.1 rfl
              clear HT
              rcases line_in l1 with h0 | ⟨b2, off2, rfl, hb2, hl⟩
              · exact absurd h0 (by have := HK.out.2; omega)
              have HL1 : Hid (∀ t, t < (H k).n → w.cell? ⟨b2, off2 + t * 2, none⟩ = some (.int .i64 ((H k).T t)) ∧ w.cell? ⟨b2, off2 + t * 2 + 1, none⟩ = some (.bool ((H k).S t))) := hl
              clear hl
              have q1 := blk_cell hbox 1 _ rfl
              go_wp2
              go_loopg [50] (H k).n (fun g i w2 => ∃ p : Nat, p ≤ (H k).n ∧ g = (H k).n - p ∧ i = .int .i64 p ∧ (∀ t, t < p → heldOk (H k) t) ∧ Below wx1.heap.size wx1 w2)
              case atStart => exact ⟨0, Nat.zero_le _, rfl, rfl, fun i hi => by omega, Below.refl _ _⟩
              case round =>
                obtain ⟨p, hp, rfl, rfl, hpre, hb3⟩ := hrel
                obtain ⟨w2, ew2⟩ : ∃ x, x = wr := ⟨_, rfl⟩
                subst ew2
                have HP : Hid (∀ t, t < p → heldOk (H k) t) := hpre
                clear hpre q1
                have hbox2 := blk_below hbox hb3
                by_cases hlp : p < (H k).n
                · have t1 := ((after hbel hb3).cell (p := ⟨b2, off2 + p * 2, none⟩) hb2).trans (HL1.out p hlp).1
                  have t2 := ((after hbel hb3).cell (p := ⟨b2, off2 + p * 2 + 1, none⟩) hb2).trans (HL1.out p hlp).2
                  go_upto_region 12 with fail
                  go_cut [50, 87] (fun i c wx => i = .int .i64 p ∧ Tells (heldOk (H k) p) c ∧ Below w2.heap.size w2 wx)
                  case first =>
                    have hb4 := push (after hbel hb3) (.cells #[.int .i64 ((H k).T p), .bool ((H k).S p)] 57)
                    have q1 := blk_cell (blk_alloc hbox2 (.cells #[.int .i64 ((H k).T p), .bool ((H k).S p)] 57)) 1 _ rfl
                    by_cases ht : isTask ((H k).T p)
                    · by_cases k0 : p = 0
                      · subst k0
                        go_quiet (first | (go_at_call 27; refine Calls.quiet_of_same (l2Task_yes _ _ ht)))
                        go_wp2
                        go_meet
                        exact ⟨rfl, tells_good ⟨ht, fun h => by omega⟩, below_drewN (push (Below.refl _ _) _) _⟩
                      · have d0 : decide (0 < p) = true := by simp; omega
                        have hk2 : ((p : Int) - 1).toNat = p - 1 := by omega
                        have hk5 : IntKind.i64.wrap ((p : Int) - 1) = (p : Int) - 1 := by rw [IntKind.wrap_i64]; omega
                        have hk3 : (p : Int) - 1 < ((H k).n : Int) := by omega
                        have hk4 : (0 : Int) ≤ (p : Int) - 1 := by omega
                        have hk6 : (0 : Int) < ((H k).n : Int) := by omega
                        have p1 := (hb4.cell (p := ⟨b2, off2 + (p - 1) * 2, none⟩) hb2).trans (HL1.out (p - 1) (by omega)).1
                        have p2 := (hb4.cell (p := ⟨b2, off2 + 0 * 2 + 1, none⟩) hb2).trans (HL1.out 0 (by omega)).2
                        simp only [Nat.zero_mul, Nat.add_zero] at p2
                        by_cases hle : (H k).T p ≤ (H k).T (p - 1)
                        · have e3 : decide ((H k).T p ≤ (H k).T (p - 1)) = true := by simpa using hle
                          go_quiet (first | (go_at_call 27; refine Calls.quiet_of_same (l2Task_yes _ _ ht)))
                          go_wp2
                          go_meet
                          exact ⟨rfl, tells_bad (fun h => by have := (h.2 (by omega)).1; omega), below_drewN (push (Below.refl _ _) _) _⟩
                        · have e3 : decide ((H k).T p ≤ (H k).T (p - 1)) = false := by simpa using hle
                          generalize hgs : (H k).S p = sp at *
                          have HSP : Hid ((H k).S p = sp) := hgs
                          clear hgs
                          cases sp with
                          | true =>
                            rcases (show (H k).S 0 = true ∨ (H k).S 0 = false by cases (H k).S 0; exact .inr rfl; exact .inl rfl) with hs0 | hs0
                            · rw [hs0] at p2
                              have HH : Hid ((H k).S 0 = true) := hs0
                              clear hs0
                              go_quiet (first | (go_at_call 27; refine Calls.quiet_of_same (l2Task_yes _ _ ht)))
                              go_wp2
                              go_meet
                              exact ⟨rfl, tells_good ⟨ht, fun _ => ⟨by omega, HSP.out, HH.out⟩⟩, below_drewN (push (Below.refl _ _) _) _⟩
                            · rw [hs0] at p2
                              have HH : Hid ((H k).S 0 = false) := hs0
                              clear hs0
                              go_quiet (first | (go_at_call 27; refine Calls.quiet_of_same (l2Task_yes _ _ ht)))
                              go_wp2
                              go_meet
                              exact ⟨rfl, tells_bad (fun h => by have := (h.2 (by omega)).2.2; rw [HH.out] at this; cases this), below_drewN (push (Below.refl _ _) _) _⟩
                          | false =>
                            go_quiet (first | (go_at_call 27; refine Calls.quiet_of_same (l2Task_yes _ _ ht)))
                            go_wp2
                            go_meet
                            exact ⟨rfl, tells_bad (fun h => by have := (h.2 (by omega)).2.1; rw [HSP.out] at this; cases this), below_drewN (push (Below.refl _ _) _) _⟩
                    · go_quiet (first | (go_at_call 27; refine Calls.quiet_of_same (l2Task_no _ _ ht)))
                      go_wp2
                      go_meet
                      exact ⟨rfl, tells_bad (fun h => ht h.1), below_drewN (push (Below.refl _ _) _) _⟩
                  case rest =>
                    obtain ⟨rfl, ⟨t, rfl, ht⟩, hbx4⟩ := hcut
                    have HT : Hid (t = false ↔ heldOk (H k) p) := ht
                    clear ht t1 t2
                    cases t with
                    | true =>
                      go_wp2
                      go_ret
                      exact ⟨says_no (fun h => by have := HT.out.2 ((h.2 k hlt).2.2.1 p hlp); cases this), after hbel (after hb3 hbx4)⟩
                    | false =>
                      have HX : Hid (heldOk (H k) p) := HT.out.1 rfl
                      clear HT
                      go_wp2
                      go_roundg ((H k).n - (p + 1))
                      case measure => omega
                      case rel => exact ⟨p + 1, by omega, rfl, by go_num, fun t ht => by
                        by_cases e : t = p
                        · subst e; exact HX.out
                        · exact HP.out t (by omega), after hb3 hbx4⟩
                · obtain rfl : p = (H k).n := by omega
                  have q2 := blk_cell hbox2 2 _ rfl
                  have hwt := hwt.below hb3
                  have hbel := after hbel hb3
                  clear hbox HL1
                  go_wp2
                  go_loopg [3, 92] (Q k).n (fun g v i w3 => ∃ (p : Nat) (wa : Option Addr) (wn wc : Nat), p ≤ (Q k).n ∧ g = (Q k).n - p ∧ i = .int .i64 p ∧ v = .slice wa wn wc ∧ WaitsIs w3 w.heap.size (.slice wa wn wc) (waited Q k ++ tasks (Q k) p) ∧ (∀ t, t < p → queueOk N H Q k t) ∧ w3.heap[w1.heap.size]? = some (.cells #[.int .i64 (K k), .slice (some ⟨b2, off2, none⟩) (H k).n hck, .slice qak (Q k).n qck] 60 (0, 0)) ∧ Below w.heap.size w w3)
                  case atStart => exact ⟨0, wa, wn, wc0, Nat.zero_le _, rfl, rfl, rfl, by rw [show waited Q k ++ tasks (Q k) 0 = waited Q k by simp [tasks]]; exact hwt, fun i hi => by omega, hbox2, hbel⟩
                  case round =>
                    clear hwt hbox2 hbel
                    obtain ⟨p, wa, wn, wc1, hp, rfl, rfl, rfl, hwt, hpre, hbox3, hbel3⟩ := hrel
                    obtain ⟨w3, ew3⟩ : ∃ x, x = wr := ⟨_, rfl⟩
                    subst ew3
                    have HQ : Hid (∀ t, t < p → queueOk N H Q k t) := hpre
                    clear hpre q2
                    have hfew := waits_few N H Q k p (fun i' hi' => (HA.out i' hi').2.2.2.1) HQ.out
                    generalize hws : waited Q k ++ tasks (Q k) p = ws at *
                    have HWS : Hid (waited Q k ++ tasks (Q k) p = ws) := hws
                    have HW : Hid (wn = ws.length) := hwt.len
                    clear hws
                    by_cases hlp : p < (Q k).n
                    · obtain ⟨b3, off3, rfl, g1, g2⟩ := l2.below hbel3 p hlp
                      have hb3w := World.block_lt_of_cell? w3 _ g1
                      have hbel4 := push hbel3 (.cells #[.int .i64 ((Q k).T p), .bool ((Q k).S p)] 57)
                      have hbox4 := blk_alloc hbox3 (.cells #[.int .i64 ((Q k).T p), .bool ((Q k).S p)] 57)
                      have hboxa := heap_alloc_new w3 (.cells #[.int .i64 ((Q k).T p), .bool ((Q k).S p)] 57)
                      have l1' := l1.below hbel4
                      have hwt4 := hwt.below (push (Below.refl _ w3) (.cells #[.int .i64 ((Q k).T p), .bool ((Q k).S p)] 57))
                      have hints : IntsAt (w3.alloc (.cells #[.int .i64 ((Q k).T p), .bool ((Q k).S p)] 57)) wa wn (getI ws) := by rw [HW.out]; exact hwt4.ints
                      have x1 := blk_cell hbox4 1 _ rfl
                      by_cases ht : isTask ((Q k).T p)
                      · by_cases hinl : inLine (H k) ((Q k).T p)
                        · have HI : Hid (inLine (H k) ((Q k).T p)) := hinl
                          clear hinl
                          go_wp2_with (first | (go_at_call 27; refine (l2Task_yes _ _ ht).mono ?_; rintro e w' ⟨rfl, rfl⟩) | (go_at_call 31; refine (l2In_yes _ _ _ (H k) _ _ rfl s1 l1' HI.out).mono ?_; rintro e w5 ⟨r, rfl, _, hb6⟩))
                          go_ret
                          exact ⟨says_no (fun h => ((h.2 k hlt).2.2.2.1 p hlp).2.1 HI.out), after hbel4 hb6⟩
                        · have HI : Hid (¬ inLine (H k) ((Q k).T p)) := hinl
                          clear hinl
                          go_wp2_with (first | (go_at_call 27; refine (l2Task_yes _ _ ht).mono ?_; rintro e w' ⟨rfl, rfl⟩) | (go_at_call 31; refine (l2In_no _ _ _ (H k) _ _ rfl s1 l1' HI.out).mono ?_; rintro e w5 ⟨rfl, hb6⟩; have x2 := blk_cell (blk_below hboxa hb6) 0 _ rfl))
                          have hwt5 := hwt4.below hb6
                          have hboxa5 := blk_below hboxa hb6
                          have hbox5 := blk_below hbox4 hb6
                          have hbel5 := after hbel4 hb6
                          have hints5 := hints.below hb6
                          clear hwt4 hints x1 hb6 hbel4 hboxa hbox4
                          by_cases hmem : (Q k).T p ∈ ws
                          · have HM : Hid ((Q k).T p ∈ ws) := hmem
                            clear hmem
                            refine (l1Has_yes wa wn wc1 (getI ws) _ _ (by have := HW.out; omega) hints5 (by rw [HW.out]; exact getI_mem.1 HM.out)).mono ?_
                            rintro e w' ⟨rfl, rfl⟩
                            go_wp2
                            go_ret
                            exact ⟨says_no (fun h => ((h.2 k hlt).2.2.2.1 p hlp).2.2.1 (by rw [HWS.out]; exact HM.out)), hbel5⟩
                          · have HM : Hid ((Q k).T p ∉ ws) := hmem
                            clear hmem
                            refine (l1Has_no wa wn wc1 (getI ws) _ _ (by have := HW.out; omega) hints5 (fun j hj e => HM.out (getI_mem.2 ⟨j, by rw [← HW.out]; exact hj, e⟩))).mono ?_
                            rintro e w' ⟨rfl, hw'⟩
                            have hw5 := hw'.symm
                            subst hw5
                            clear hints5
                            have hsz5 := hbel5.size
                            go_wp2_with (first | (at_builtin; refine wpList_append_lies _ (by rfl) (.tmp 114) (.tmp 117) 33 (by rfl) w.heap.size 3 j0 (.int .i64 0) 1 8 Try.underlying33 ji jz0 jz1 jz2 rfl (by decide) _ ws.length (cellsI ws) (by rfl) (hwt5.alloc _) ⟨w5.heap.size, 0, none⟩ 1 1 [.int .i64 ((Q k).T p)] (by rfl) (by rfl) (World.news_of_block (heap_alloc_new w5 _)) (by intro u hu; simp at hu; subst hu; rfl) (by decide) (by unfold maxLen; omega) (by omega) (by simp; omega) _ rfl ?_; intro g cap w6 hown6 hgrow hat hlt6))
                            have hbel6 := (push hbel5 (.cells #[.int .i64 ((Q k).T p)] 3)).grown hgrow (by simp; omega) (fun j hj => (hwt5.lt j hj).1)
                            have hbox6 := grown_blk hgrow (blk_alloc hbox5 (.cells #[.int .i64 ((Q k).T p)] 3)) (box_not_row hbox5 hwt5 (by decide))
                            have hboxa6 := grown_blk hgrow (blk_alloc hboxa5 (.cells #[.int .i64 ((Q k).T p)] 3)) (box_not_row hboxa5 hwt5 (by decide))
                            have hwt6 : WaitsIs w6 w.heap.size (.slice (some ⟨g, 0, none⟩) (ws.length + 1) cap) (ws ++ [(Q k).T p]) := by unfold WaitsIs; rw [cellsI_snoc, List.length_append]; exact hown6
                            clear hown6 hgrow hat hbox5 hboxa5 hwt5 hbel5 hwt x2
                            go_loopg [123] (N - k) (fun g y w7 => ∃ r : Nat, r ≤ N - k ∧ g = N - k - r ∧ y = .int .i64 r ∧ (∀ t, t < r → ¬ inLine (H (k + t)) ((Q k).T p)) ∧ Below w6.heap.size w6 w7)
                            case atStart => exact ⟨0, Nat.zero_le _, rfl, rfl, fun i hi => by omega, Below.refl _ _⟩
                            case round =>
                              obtain ⟨r, hr, rfl, rfl, hpre, hb8⟩ := hrel
                              obtain ⟨w7, ew7⟩ : ∃ x, x = wr := ⟨_, rfl⟩
                              subst ew7
                              have HR : Hid (∀ t, t < r → ¬ inLine (H (k + t)) ((Q k).T p)) := hpre
                              clear hpre
                              by_cases hlr : r < N - k
                              · obtain ⟨y1, y2, y3, ly, _, _, _⟩ := HIN.out.below (after hbel6 hb8) (k + r) (by omega)
                                rw [show off + (k + r) * 3 = off + k * 3 + r * 3 by omega] at y1 y2 y3
                                have s3 := (HS.out (k + r) (by omega)).1
                                generalize ha (k + r) = hay at *
                                generalize qa (k + r) = qay at *
                                generalize hc (k + r) = hcy at *
                                generalize qc (k + r) = qcy at *
                                have z0 := blk_cell (blk_alloc (blk_below hboxa6 hb8) (.cells #[.int .i64 (K (k + r)), .slice hay (H (k + r)).n hcy, .slice qay (Q (k + r)).n qcy] 60)) 0 _ rfl
                                have ly' := ly.below (push (Below.refl _ w7) (.cells #[.int .i64 (K (k + r)), .slice hay (H (k + r)).n hcy, .slice qay (Q (k + r)).n qcy] 60))
                                have hr2 : (r : Int) < (N : Int) - (k : Int) := by omega
                                have hbel8 := push (after hbel6 hb8) (.cells #[.int .i64 (K (k + r)), .slice hay (H (k + r)).n hcy, .slice qay (Q (k + r)).n qcy] 60)
                                by_cases hi2 : inLine (H (k + r)) ((Q k).T p)
                                · have HI2 : Hid (inLine (H (k + r)) ((Q k).T p)) := hi2
                                  clear hi2
                                  go_wp2_with (first | (go_at_call 31; refine (l2In_yes _ _ _ (H (k + r)) _ _ rfl s3 ly' HI2.out).mono ?_; rintro e w8 ⟨x, rfl, _, hb9⟩))
                                  go_ret
                                  exact ⟨says_no (fun h => ((h.2 k hlt).2.2.2.1 p hlp).2.2.2 (k + r) (by omega) (by omega) HI2.out), after hbel8 hb9⟩
                                · have HI2 : Hid (¬ inLine (H (k + r)) ((Q k).T p)) := hi2
                                  clear hi2
                                  go_wp2_with (first | (go_at_call 31; refine (l2In_no _ _ _ (H (k + r)) _ _ rfl s3 ly' HI2.out).mono ?_; rintro e w8 ⟨rfl, hb9⟩))
                                  go_roundg (N - k - (r + 1))
                                  case measure => omega
                                  case rel => exact ⟨r + 1, by omega, rfl, by go_num, fun t ht => by
                                    by_cases e : t = r
                                    · subst e; exact HI2.out
                                    · exact HR.out t (by omega), after (push hb8 _) hb9⟩
                              · obtain rfl : r = N - k := by omega
                                go_wp2
                                go_roundg ((Q k).n - (p + 1))
                                case measure => omega
                                case rel =>
                                  refine ⟨p + 1, some ⟨g, 0, none⟩, ws.length + 1, cap, by omega, rfl, by go_num, rfl, ?_, fun t htt => ?_, blk_below hbox6 hb8, after hbel6 hb8⟩
                                  · rw [tasks_succ, ← List.append_assoc, HWS.out]; exact hwt6.below hb8
                                  · by_cases e : t = p
                                    · subst e
                                      exact ⟨ht, HI.out, by rw [HWS.out]; exact HM.out, fun y hy hyN => by
                                        have := HR.out (y - k) (by omega)
                                        rwa [show k + (y - k) = y by omega] at this⟩
                                    · exact HQ.out t (by omega)
                      · have HI : Hid (¬ isTask ((Q k).T p)) := ht
                        clear ht
                        go_wp2_with (first | (go_at_call 27; refine (l2Task_no _ _ HI.out).mono ?_; rintro e w' ⟨rfl, rfl⟩))
                        go_ret
                        exact ⟨says_no (fun h => HI.out ((h.2 k hlt).2.2.2.1 p hlp).1), hbel4⟩
                    · obtain rfl : p = (Q k).n := by omega
                      have x1 := blk_cell hbox3 1 _ rfl
                      have x2 := blk_cell hbox3 2 _ rfl
                      by_cases hq0 : (Q k).n = 0
                      · have d0 : decide (0 < (Q k).n) = false := by simp; omega
                        have HQ0 : Hid ((Q k).n = 0) := hq0
                        clear hq0
                        go_wp2
                        go_quiet (fail)
                        go_wp2
                        go_roundg (N - (k + 1))
                        case measure => omega
                        case rel => exact ⟨k + 1, wa, wn, wc1, by omega, rfl, by go_num, rfl, by
                          show WaitsIs _ w.heap.size _ (waited Q k ++ tasks (Q k) (Q k).n)
                          rw [HWS.out]; exact own_below (below_drewN (Below.refl _ _) _) hwt, fun i hi => by
                          by_cases e : i = k
                          · subst e; exact ⟨HK.out.1, HK.out.2, HP.out, HQ.out, fun h => by have := HQ0.out; omega⟩
                          · exact HA.out i (by omega), below_drewN hbel3 _⟩
                      · obtain ⟨b3, off3, rfl, g1, g2⟩ := l2.below hbel3 0 (by omega)
                        have hb3w := World.block_lt_of_cell? w3 _ g1
                        have hbxw := blk_lt hbox3
                        simp only [Nat.zero_mul, Nat.add_zero] at g1 g2
                        have d0 : decide (0 < (Q k).n) = true := by simp; omega
                        have d1 : (0 : Int) < ((Q k).n : Int) := by omega
                        have d2 : 0 < (Q k).n := by omega
                        have l1' := l1.below hbel3.drew
                        cases hmay : mayB (H k) ((Q k).S 0) with
                        | true =>
                          have HM : Hid (mayB (H k) ((Q k).S 0) = true) := hmay
                          go_wp2
                          go_region_held3 (fun w' => w'.cell? ⟨w1.heap.size, 1, none⟩ = some (.slice (some ⟨b2, off2, none⟩) (H k).n hck) ∧ w'.cell? ⟨w1.heap.size, 2, none⟩ = some (.slice (some ⟨b3, off3, none⟩) (Q k).n qck) ∧ w'.cell? ⟨b3, off3, none⟩ = some (.int .i64 ((Q k).T 0)) ∧ w'.cell? ⟨b3, off3 + 1, none⟩ = some (.bool ((Q k).S 0)))
                            (first | exact ⟨x1, x2, g1, g2⟩ | exact ⟨(hb9.cell hbxw).trans x1, (hb9.cell hbxw).trans x2, (hb9.cell hb3w).trans g1, (hb9.cell hb3w).trans g2⟩)
                            (first | (go_at_call 32; refine (l2May_any _ _ _ (H k) _ _ _ rfl l1').mono ?_; rintro e w8 ⟨rfl, hb9⟩; rw [HM.out]))
                          go_wp2
                          go_ret
                          exact ⟨says_no (fun h => by have := (h.2 k hlt).2.2.2.2 (by omega); rw [HM.out] at this; cases this), after hbel3.drew hb9⟩
                        | false =>
                          have HM : Hid (mayB (H k) ((Q k).S 0) = false) := hmay
                          go_wp2
                          go_region_held3 (fun w' => w'.cell? ⟨w1.heap.size, 1, none⟩ = some (.slice (some ⟨b2, off2, none⟩) (H k).n hck) ∧ w'.cell? ⟨w1.heap.size, 2, none⟩ = some (.slice (some ⟨b3, off3, none⟩) (Q k).n qck) ∧ w'.cell? ⟨b3, off3, none⟩ = some (.int .i64 ((Q k).T 0)) ∧ w'.cell? ⟨b3, off3 + 1, none⟩ = some (.bool ((Q k).S 0)))
                            (first | exact ⟨x1, x2, g1, g2⟩ | exact ⟨(hb9.cell hbxw).trans x1, (hb9.cell hbxw).trans x2, (hb9.cell hb3w).trans g1, (hb9.cell hb3w).trans g2⟩)
                            (first | (go_at_call 32; refine (l2May_any _ _ _ (H k) _ _ _ rfl l1').mono ?_; rintro e w8 ⟨rfl, hb9⟩; rw [HM.out]))
                          go_wp2
                          go_roundg (N - (k + 1))
                          case measure => omega
                          case rel => exact ⟨k + 1, wa, wn, wc1, by omega, rfl, by go_num, rfl, by
                            show WaitsIs _ w.heap.size _ (waited Q k ++ tasks (Q k) (Q k).n)
                            rw [HWS.out]; exact hwt.drew.below hb9, fun i hi => by
                            by_cases e : i = k
                            · subst e; exact ⟨HK.out.1, HK.out.2, HP.out, HQ.out, fun _ => HM.out⟩
                            · exact HA.out i (by omega), after hbel3.drew hb9⟩
        · obtain rfl : k = N := by omega
          go_wp2
          go_ret
          exact ⟨says_yes ⟨h60, HA.out⟩, hbel⟩
  · go_enter Try.func26, Try.ntmps26
    go_wp2
    go_ret
    exact ⟨says_no (fun h => by have := h.1; omega), Below.refl _ _⟩

end Go.Proofs.Ytdmkpflphjemoaa
