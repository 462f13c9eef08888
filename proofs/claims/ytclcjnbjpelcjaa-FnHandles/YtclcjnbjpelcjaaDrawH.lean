/-
  OWN TEXT: the drawing of an arena: contract of (*l1Cur).arena.
-/
import Derived.Test.YtclcjnbjpelcjaaDrawC
import Derived.Deep.DrawnRows
namespace Go.Proofs.Ytclcjnbjpelcjaa
open Go.RowKit
attribute [local go_sem ↓] Go.wp_at_zero Go.wp_at_succ

theorem hand_cells {w : World} {base e k c : Nat} {ao : Option Addr} {f : Nat → Int × Int} (h : w.ownsRow base e 2 (.slice ao k c) k (handList f k)) (r : Nat) (hr : r < k) : ∃ g, ao = some ⟨g, 0, none⟩ ∧ w.cell? ⟨g, r * 2, none⟩ = some (.int .i64 (f r).1) ∧ w.cell? ⟨g, r * 2 + 1, none⟩ = some (.int .i64 (f r).2) := by
  obtain ⟨g, rfl, _, _⟩ := own_addr h (by omega)
  have c0 := own_cell h (r * 2) (by omega) rfl
  have c1 := own_cell h (r * 2 + 1) (by omega) rfl
  rw [handCell_0] at c0
  rw [handCell_1] at c1
  exact ⟨g, rfl, c0, c1⟩
theorem cell_alloc {w : World} {a : Addr} {v : Value} (h : w.cell? a = some v) (o : Obj) : (w.alloc o).cell? a = some v := ((push (Below.refl _ w) o).cell (World.block_lt_of_cell? w _ h)).trans h
/-- What a walk reads of an arena that is drawn. -/
theorem ASit.reads {w wr : World} {cb n c a k : Nat} {ao : Option Addr} {vl : Value} (h : ASit w wr cb ao n c a vl k) : ∃ sa ta sn tm sc tc A U V F lo lc f, vl = .slice lo k lc ∧ wr.heap[w.heap.size + 1]? = some (.cells #[.slice sa sn sc, .slice ta tm tc] 26 (0, 0)) ∧ sn ≤ 20 ∧ tm ≤ 20 ∧ tm ≤ tc ∧ tc ≤ 9223372036854775807 ∧ (sa = none → sn = 0 ∧ sc = 0) ∧ (ta = none → tm = 0 ∧ tc = 0) ∧
    LooseRow wr (w.heap.size + 2) 106 3 (.slice sa sn sc) sn (slotList A U V sn) ∧ LooseRow wr (w.heap.size + 2) 3 1 (.slice ta tm tc) tm (intList F tm) ∧ wr.ownsRow (w.heap.size + 2) 30 2 (.slice lo k lc) k (handList f k) := by
  obtain ⟨⟨s, t, h1, ao, bo, n, m, d1, d2, A, U, V, F, rfl, rfl, h2, h3, h4, h5⟩, _, _, ⟨f, h6⟩, _⟩ := h
  obtain ⟨lo, lc, rfl, _⟩ := own_form h6
  have f1 := loose_form h4
  have f2 := loose_form h5
  exact ⟨ao, bo, n, m, d1, d2, A, U, V, F, lo, lc, f, rfl, h1, h2, h3, f2.1, f2.2.1, f1.2.2, f2.2.2, h4, h5, h6⟩

set_option maxHeartbeats 12800000 in
set_option maxRecDepth 100000 in
theorem arena_any (cb : Nat) (ao : Option Addr) (n c a : Nat) (w : World) (ha : a ≤ 500000000) (h : CurIs w cb ao n c a) :
    Calls Try.prog 44 #[.pointer (some ⟨cb, 0, none⟩)] w fun e w' => (∃ s t vl, e = .returned (.tuple #[.agg #[s, t], vl]) ∧ ArnIs w' (w.heap.size + 2) 21 s t) ∧ CurIs w' cb ao n c (a + 1000) ∧ Kept w w' (fun b => b = cb) := by
  have HLW : Hid (Low w cb ao n) := ⟨h.lt, h.code_lt⟩
  have hcb := h.lt
  have h0 : ASit w ((w.alloc (.cells #[.slice none 0 0, .slice none 0 0] 26)).alloc (.cells #[.slice none 0 0, .slice none 0 0] 26)) cb ao n c a (.slice none 0 0) 0 := ⟨⟨_, _, by simpa using heap_alloc_new (w.alloc _) _, arn_zero _ _ _⟩, blk_alloc (heap_alloc_new w _) _, h.below (push (push (Below.refl _ _) _) _), ⟨fun _ => (0, 0), rfl, .inl ⟨rfl, rfl⟩⟩, Kept.of_below (push (push (Below.refl _ _) _) _)⟩
  go_enter Try.func44, Try.ntmps44
  go_upto_region 3 with fail
  generalize (w.alloc (.cells #[.slice none 0 0, .slice none 0 0] 26)).alloc (.cells #[.slice none 0 0, .slice none 0 0] 26) = W1 at h0 ⊢
  go_wp2_with fail
  refine (pick_any cb ao n c a 14 _ (by omega) (by omega) (by omega) h0.cur).mono ?_
  rintro e w2 ⟨⟨r, rfl, hr⟩, hc2, hk2⟩
  have h2 := h0.on HLW.out hc2 hk2
  clear h0 hc2 hk2 h
  go_wp2_with fail
  refine (one_any cb ao n c (a + 2) 12 _ (by omega) (by omega) (by omega) h2.cur).mono ?_
  rintro e w3 ⟨⟨q, rfl⟩, hc3, hk3⟩
  have h3 := h2.on HLW.out hc3 hk3
  clear h2 hc3 hk3
  go_upto_if 16 with fail
  go_cut [5, 6] (fun v5 v6 wx => v5 = .slice none 0 0 ∧ (∃ t : Nat, v6 = .int .i64 t ∧ t ≤ 60) ∧ wx = w3)
  case first =>
    cases q with
    | true =>
      go_wp2
      go_meet
      exact ⟨rfl, ⟨60, rfl, by omega⟩, rfl⟩
    | false =>
      go_wp2
      go_meet
      exact ⟨rfl, ⟨r, rfl, by omega⟩, rfl⟩
  case rest =>
    obtain ⟨rfl, ⟨t0, rfl, ht0⟩, rfl⟩ := hcut
    go_wp2
    go_loopw [5, 6] (fun v i wr => ∃ (t k : Nat), i = .int .i64 t ∧ t + k ≤ 60 ∧ ASit w wr cb ao n c (a + 4 + 6 * (60 - t)) v k) (fun _ i _ => (intOf i).toNat)
    case atStart => exact ⟨t0, 0, rfl, by omega, h3.more (by omega)⟩
    case round =>
      obtain ⟨t, k, rfl, ht, hs⟩ := hrel
      clear h3
      by_cases ht0 : t = 0
      · subst ht0
        obtain ⟨sa, ta, sn, tm, sc, tc, A, U, V, F, hE, hR, hsn, htm⟩ := AEnd.of hs
        obtain ⟨A1, hA1⟩ : ∃ A1, A1 = a + 4 + 6 * (60 - 0) := ⟨_, rfl⟩
        rw [← hA1] at hE
        have HE : Hid (AEnd w wr cb ao n c A1 (.slice sa sn sc) (.slice ta tm tc)) := hE
        have HR : Hid (ARows wr (w.heap.size + 2) sa ta sn tm sc tc A U V F) := hR
        clear hs hE hR
        go_wp2_with fail
        refine (pick_any cb ao n c A1 30 _ (by omega) (by omega) (by omega) HE.out.cur).mono ?_
        rintro e w4 ⟨⟨r, rfl, hr⟩, hc4, hk4⟩
        have HE4 : Hid (AEnd w w4 cb ao n c (A1 + 2) (.slice sa sn sc) (.slice ta tm tc)) := HE.out.on HLW.out hc4 hk4
        have HR4 : Hid (ARows w4 (w.heap.size + 2) sa ta sn tm sc tc A U V F) := HR.out.kept hk4 (fun b e => by have := HLW.out.cb; omega)
        clear hc4 hk4 HE HR
        by_cases r0 : r = 0
        · subst r0
          obtain ⟨j0, ji, jz0, jz1, jz2⟩ := info_parts Try.infoInt
          have p1 := blk_cell HE4.out.box 1 _ rfl
          have HCU : Hid (CurIs w4.drew cb ao n c (A1 + 2)) := HE4.out.cur.below (Below.refl _ _).drew
          have HN0 : Hid (A1 + 2 ≤ 900000000) := by show A1 + 2 ≤ 900000000; omega
          go_upto_region 18 with fail
          go_region_law (first
            | (go_simp; go_at_call 55; refine Calls.mono (pick_any cb ao n c (A1 + 2) 5 _ HN0.out (by omega) (by omega) HCU.out) ?_; rintro e w5 ⟨⟨r5, rfl, hr5⟩, hc5, hk5⟩; have HE5 : Hid (AEnd w w5 cb ao n c (A1 + 2 + 2) (.slice sa sn sc) (.slice ta tm tc)) := (HE4.out.below (Below.refl _ _).drew).on HLW.out hc5 hk5; have HR5 : Hid (ARows w5 (w.heap.size + 2) sa ta sn tm sc tc A U V F) := (HR4.out.below (Below.refl _ _).drew).kept hk5 (fun b e => by have := HLW.out.cb; omega); have x1 := blk_cell HE5.out.box 1 _ rfl; have hwr5 : IntKind.i64.wrap ((r5 : Int) - 1) = (r5 : Int) - 1 := (by rw [IntKind.wrap_i64]; omega); have xA1 := blk_cell (blk_alloc HE5.out.box (.cells #[.int .i64 ((r5 : Int) - 1)] 3)) 1 _ rfl; have hs5 : w.heap.size + 2 ≤ w5.heap.size := (by have := blk_lt HE5.out.box; omega); clear hc5 hk5; dsimp only)
            | (refine step_append_loose (by rfl) (.tmp 63) (.tmp 67) 24 (by rfl) (w.heap.size + 2) 3 j0 (.int .i64 0) 1 8 Try.underlying24 ji jz0 jz1 jz2 rfl (by decide) ta tm tc (intList F tm) (by rw [intList_length]; omega) (by rfl) (HR5.out.frees.alloc _) ⟨w5.heap.size, 0, none⟩ 1 1 [.int .i64 ((r5 : Int) - 1)] (by rfl) (by rfl) (World.news_of_block (cs := #[.int .i64 ((r5 : Int) - 1)]) (t := 3) (fr := (0, 0)) (heap_alloc_new w5 _)) (by intro u hu; simp at hu; subst hu; rfl) (by decide) (by unfold maxLen; omega) (by omega) (by simp; omega) ?_; intro g6 cap6 w6 row6 hown6 hgrow6 hrow6; have HE6 : Hid (AEnd w w6 cb ao n c (A1 + 2 + 2) (.slice sa sn sc) (.slice ta tm tc)) := (HE5.out.below (push (Below.refl _ _) _)).grown HLW.out hgrow6 hrow6; have u1 := blk_cell HE6.out.box 1 _ rfl; have u2 := blk_free HE6.out.box 1; have HA6 : Hid (ArnIs (w6.setCell ⟨w.heap.size + 1, 1, none⟩ (.slice (some ⟨g6, 0, none⟩) (tm + 1) cap6)) (w.heap.size + 2) 21 (.slice sa sn sc) (.slice (some ⟨g6, 0, none⟩) (tm + 1) cap6)) := arn_free (HR5.out.below (push (Below.refl _ _) _)) hgrow6 hrow6 hown6 HE6.out.box ((Kept.refl w6 (fun b => b = w.heap.size + 1)).setS rfl _) (by omega) (by omega); clear hown6 hgrow6 hrow6))
          all_goals
            have HEZ : Hid (AEnd w (w6.setCell ⟨w.heap.size + 1, 1, none⟩ (.slice (some ⟨g6, 0, none⟩) (tm + 1) cap6)) cb ao n c (A1 + 2 + 2) (.slice sa sn sc) (.slice (some ⟨g6, 0, none⟩) (tm + 1) cap6)) := HE6.out.set1 HLW.out _
            have HAZ := HA6
            obtain ⟨z1, z2, hres⟩ := HEZ.out.res
            have hbox := HEZ.out.box
            have p0 := blk_cell hbox 0 _ rfl
            have p1 := blk_cell hbox 1 _ rfl
            have q0 := blk_cell hres 0 _ rfl
            have q1 := blk_cell hres 1 _ rfl
            have g0 := blk_free hres 0
            have g1 := blk_free hres 1
            have D : Hid _ := HEZ.out.done HLW.out HAZ.out
            clear hbox hres
            go_wp2
            have k0 := blk_cell D.out.1 0 _ rfl
            have k1 := blk_cell D.out.1 1 _ rfl
            exact bodyPost_ret (v := .tuple #[.agg #[.slice sa sn sc, .slice (some ⟨g6, 0, none⟩) (tm + 1) cap6], u5]) (by simp [results, Try.results44, go_sem, k0, k1]) rfl ⟨⟨_, _, _, rfl, D.out.2.1⟩, D.out.2.2.1.more (by omega), D.out.2.2.2⟩
        · by_cases r1 : r = 1
          · subst r1
            obtain ⟨j0, ji, jz0, jz1, jz2⟩ := info_parts Try.infoSlot
            have p0 := blk_cell HE4.out.box 0 _ rfl
            have pA0 := blk_cell (blk_alloc HE4.out.box (.cells #[.int .i64 (-1), .int .i64 0, .int .i64 9, .int .i64 10] 3)) 0 _ rfl
            have HCA : Hid (CurIs (w4.alloc (.cells #[.int .i64 (-1), .int .i64 0, .int .i64 9, .int .i64 10] 3)).drew cb ao n c (A1 + 2)) := HE4.out.cur.below (push (Below.refl _ _) _).drew
            have HBA : Hid ((w4.alloc (.cells #[.int .i64 (-1), .int .i64 0, .int .i64 9, .int .i64 10] 3)).drew.heap[w4.heap.size]? = some (.cells (List.map (fun x => Value.int .i64 x) [-1, 0, 9, 10]).toArray 3 (0, 0))) := heap_alloc_new w4 (.cells #[.int .i64 (-1), .int .i64 0, .int .i64 9, .int .i64 10] 3)
            have HNB : Hid (w4.heap.size ≠ cb) := by show w4.heap.size ≠ cb; have := HE4.out.cur.lt; omega
            have HN0 : Hid (A1 + 2 ≤ 900000000) := by show A1 + 2 ≤ 900000000; omega
            have HN1 : Hid (A1 + 2 + 2 ≤ 900000000) := by show A1 + 2 + 2 ≤ 900000000; omega
            go_upto_region 20 with fail
            go_region_law (first
              | (go_simp; go_at_call 57; refine Calls.mono (amongH cb ao n c (A1 + 2) 4 [-1, 0, 9, 10] _ rfl HN0.out (by omega) (by omega) HCA.out w4.heap.size HBA.out HNB.out) ?_; rintro e w5 ⟨⟨x, rfl⟩, hc5, hk5⟩; have HE5 : Hid (AEnd w w5 cb ao n c (A1 + 2 + 2) (.slice sa sn sc) (.slice ta tm tc)) := (HE4.out.below (push (Below.refl _ _) _).drew).on HLW.out hc5 hk5; have HR5 : Hid (ARows w5 (w.heap.size + 2) sa ta sn tm sc tc A U V F) := (HR4.out.below (push (Below.refl _ _) _).drew).kept hk5 (fun b e => by have := HLW.out.cb; omega); have x0 := blk_cell HE5.out.box 0 _ rfl; clear hc5 hk5; dsimp only)
              | (go_simp; go_at_call 56; refine Calls.mono (one_any cb ao n c (A1 + 2 + 2) 2 _ HN1.out (by omega) (by omega) HE5.out.cur) ?_; rintro e w6 ⟨⟨q, rfl⟩, hc6, hk6⟩; have HE6 : Hid (AEnd w w6 cb ao n c (A1 + 2 + 2 + 2) (.slice sa sn sc) (.slice ta tm tc)) := HE5.out.on HLW.out hc6 hk6; have HR6 : Hid (ARows w6 (w.heap.size + 2) sa ta sn tm sc tc A U V F) := HR5.out.kept hk6 (fun b e => by have := HLW.out.cb; omega); have y0 := blk_cell HE6.out.box 0 _ rfl; have yA0 := blk_cell (blk_alloc HE6.out.box (.cells #[.int .i64 x, .bool q, .int .i64 0] 106)) 0 _ rfl; have hs6 : w.heap.size + 2 ≤ w6.heap.size := (by have := blk_lt HE6.out.box; omega); clear hc6 hk6; dsimp only)
              | (refine step_append_loose (by rfl) (.tmp 73) (.tmp 80) 23 (by rfl) (w.heap.size + 2) 106 j0 (.agg #[.int .i64 0, .bool false, .int .i64 0]) 3 24 Try.underlying23 ji jz0 jz1 jz2 rfl (by decide) sa sn sc (slotList A U V sn) (by simp [slotList]) (by rfl) (HR6.out.slots.alloc _) ⟨w6.heap.size, 0, none⟩ 1 1 [.int .i64 x, .bool q, .int .i64 0] (by rfl) (by rfl) (World.news_of_block (cs := #[.int .i64 x, .bool q, .int .i64 0]) (t := 106) (fr := (0, 0)) (heap_alloc_new w6 _)) (by intro u hu; simp at hu; rcases hu with rfl | rfl | rfl <;> rfl) (by decide) (by unfold maxLen; omega) (by omega) (by simp; omega) ?_; intro g7 cap7 w7 row7 hown7 hgrow7 hrow7; have HE7 : Hid (AEnd w w7 cb ao n c (A1 + 2 + 2 + 2) (.slice sa sn sc) (.slice ta tm tc)) := (HE6.out.below (push (Below.refl _ _) _)).grown HLW.out hgrow7 hrow7; have u1 := blk_cell HE7.out.box 0 _ rfl; have u2 := blk_free HE7.out.box 0; have HA7 : Hid (ArnIs (w7.setCell ⟨w.heap.size + 1, 0, none⟩ (.slice (some ⟨g7, 0, none⟩) (sn + 1) cap7)) (w.heap.size + 2) 21 (.slice (some ⟨g7, 0, none⟩) (sn + 1) cap7) (.slice ta tm tc)) := arn_slot (HR6.out.below (push (Below.refl _ _) _)) hgrow7 hrow7 hown7 HE7.out.box ((Kept.refl w7 (fun b => b = w.heap.size + 1)).setS rfl _) (by omega) (by omega); clear hown7 hgrow7 hrow7))
            all_goals
              have HEZ : Hid (AEnd w (w7.setCell ⟨w.heap.size + 1, 0, none⟩ (.slice (some ⟨g7, 0, none⟩) (sn + 1) cap7)) cb ao n c (A1 + 2 + 2 + 2) (.slice (some ⟨g7, 0, none⟩) (sn + 1) cap7) (.slice ta tm tc)) := HE7.out.set0 HLW.out _
              have HAZ := HA7
              obtain ⟨z1, z2, hres⟩ := HEZ.out.res
              have hbox := HEZ.out.box
              have p0 := blk_cell hbox 0 _ rfl
              have p1 := blk_cell hbox 1 _ rfl
              have q0 := blk_cell hres 0 _ rfl
              have q1 := blk_cell hres 1 _ rfl
              have g0 := blk_free hres 0
              have g1 := blk_free hres 1
              have D : Hid _ := HEZ.out.done HLW.out HAZ.out
              clear hbox hres
              go_wp2
              have k0 := blk_cell D.out.1 0 _ rfl
              have k1 := blk_cell D.out.1 1 _ rfl
              exact bodyPost_ret (v := .tuple #[.agg #[.slice (some ⟨g7, 0, none⟩) (sn + 1) cap7, .slice ta tm tc], u5]) (by simp [results, Try.results44, go_sem, k0, k1]) rfl ⟨⟨_, _, _, rfl, D.out.2.1⟩, D.out.2.2.1.more (by omega), D.out.2.2.2⟩
          · have e0 : ((r : Int) == 0) = false := by simp; omega
            have e1 : ((r : Int) == 1) = false := by simp; omega
            have HEZ := HE4
            have HAZ : Hid (ArnIs w4 (w.heap.size + 2) 21 (.slice sa sn sc) (.slice ta tm tc)) := HR4.out.arn (by omega) (by omega)
            obtain ⟨z1, z2, hres⟩ := HEZ.out.res
            have hbox := HEZ.out.box
            have p0 := blk_cell hbox 0 _ rfl
            have p1 := blk_cell hbox 1 _ rfl
            have q0 := blk_cell hres 0 _ rfl
            have q1 := blk_cell hres 1 _ rfl
            have g0 := blk_free hres 0
            have g1 := blk_free hres 1
            have D : Hid _ := HEZ.out.done HLW.out HAZ.out
            clear hbox hres
            go_wp2
            have k0 := blk_cell D.out.1 0 _ rfl
            have k1 := blk_cell D.out.1 1 _ rfl
            exact bodyPost_ret (v := .tuple #[.agg #[.slice sa sn sc, .slice ta tm tc], u5]) (by simp [results, Try.results44, go_sem, k0, k1]) rfl ⟨⟨_, _, _, rfl, D.out.2.1⟩, D.out.2.2.1.more (by omega), D.out.2.2.2⟩
      · have d0 : decide ((0 : Int) < (t : Int)) = true := by simp; omega
        have hwt : IntKind.i64.wrap ((t : Int) - 1) = ((t - 1 : Nat) : Int) := by rw [IntKind.wrap_i64]; omega
        obtain ⟨A0, hA0⟩ : ∃ A0, A0 = a + 4 + 6 * (60 - t) := ⟨_, rfl⟩
        rw [← hA0] at hs
        have hAle : A0 ≤ 600000000 := by omega
        have HA0 : Hid (A0 = a + 4 + 6 * (60 - t)) := hA0
        clear hA0
        obtain ⟨lo, lc, hvl⟩ : ∃ lo lc, u5 = .slice lo k lc := by
          obtain ⟨f, hf⟩ := hs.own
          obtain ⟨lo, lc, e, _⟩ := own_form hf
          exact ⟨lo, lc, e⟩
        subst hvl
        go_upto_region 8 with fail
        go_cut [5, 6, 27] (fun v5 v6 v27 wx => v5 = .slice lo k lc ∧ v6 = .int .i64 t ∧ (∃ b : Bool, v27 = .bool b ∧ (b = true → 0 < k)) ∧ ASit w wx cb ao n c (A0 + 2) (.slice lo k lc) k)
        case first =>
          by_cases hk0 : 0 < k
          · have d1 : decide (0 < k) = true := decide_eq_true hk0
            go_wp2_with fail
            refine (one_any cb ao n c A0 2 _ (by omega) (by omega) (by omega) hs.cur).mono ?_
            rintro e w4 ⟨⟨q4, rfl⟩, hc4, hk4⟩
            go_wp2
            go_meet
            exact ⟨rfl, rfl, ⟨q4, rfl, fun _ => hk0⟩, hs.on HLW.out hc4 hk4⟩
          · obtain rfl : k = 0 := by omega
            go_wp2
            go_meet
            exact ⟨rfl, rfl, ⟨false, rfl, fun h => by cases h⟩, hs.more (by omega)⟩
        case rest =>
          obtain ⟨rfl, rfl, ⟨b4, rfl, hb4⟩, hs4⟩ := hcut
          have HB4 : Hid (b4 = true → 0 < k) := hb4
          clear hb4 hs
          generalize wc = W at hs4 ⊢
          cases b4 with
          | true =>
            have hk0 : 0 < k := HB4.out rfl
            obtain ⟨sa, ta, sn, tm, sc, tc, A, U, V, F, lo', lc', f, hvl, hab, hsn, htm, htc, htc2, hn1, hn2, hrow1, hrow2, hown⟩ := hs4.reads
            cases hvl
            obtain ⟨g, rfl, hg1, hg2⟩ := own_addr hown hk0
            have hsW : w.heap.size + 1 < W.heap.size := blk_lt hab
            have HN1 : Hid (sa = none → sn = 0 ∧ sc = 0) := hn1
            have HN2 : Hid (ta = none → tm = 0 ∧ tc = 0) := hn2
            have HS4 : Hid (ASit w W cb ao n c (A0 + 2) (.slice (some ⟨g, 0, none⟩) k lc) k) := hs4
            have RD : Hid (∀ w2, Kept W w2 (fun b => b = cb) → (w2.cell? ⟨w.heap.size + 1, 0, none⟩ = some (.slice sa sn sc) ∧ w2.cell? ⟨w.heap.size + 1, 1, none⟩ = some (.slice ta tm tc)) ∧ (SlotsAt w2 sa sn A U V ∧ IntsAt w2 ta tm F) ∧ ∀ r, r < k → w2.cell? ⟨g, r * 2, none⟩ = some (.int .i64 (f r).1) ∧ w2.cell? ⟨g, r * 2 + 1, none⟩ = some (.int .i64 (f r).2)) := by
              intro w2 hk
              have hcb := HLW.out.cb
              have hb2 := hk.blk hab (by omega)
              have e1 : LooseRow w2 (w.heap.size + 2) 106 3 (.slice sa sn sc) sn (slotList A U V sn) := by
                rcases hrow1 with h | ho
                · exact .inl h
                · exact .inr (hk.own ho (fun b hb e => by have := (ho.lt b hb).1; omega))
              have e2 : LooseRow w2 (w.heap.size + 2) 3 1 (.slice ta tm tc) tm (intList F tm) := by
                rcases hrow2 with h | ho
                · exact .inl h
                · exact .inr (hk.own ho (fun b hb e => by have := (ho.lt b hb).1; omega))
              have e3 := hk.own hown (fun b hb e => by have := (hown.lt b hb).1; omega)
              refine ⟨⟨blk_cell hb2 0 _ rfl, blk_cell hb2 1 _ rfl⟩, ⟨e1.slots, e2.ints⟩, fun r hr => ?_⟩
              obtain ⟨g', hg', c0, c1⟩ := hand_cells e3 r hr
              cases hg'
              exact ⟨c0, c1⟩
            have HN0 : Hid (A0 + 2 ≤ 900000000) := by show A0 + 2 ≤ 900000000; omega
            have HN3 : Hid (1 ≤ k) := hk0
            have HN4 : Hid (k ≤ 100000) := by show k ≤ 100000; omega
            have CUD : Hid (CurIs W.drew cb ao n c (A0 + 2)) := hs4.cur.below (Below.refl _ _).drew
            have CUA : Hid (CurIs (W.alloc (.cells #[.slice none 0 0, .slice none 0 0] 26)).drew cb ao n c (A0 + 2)) := hs4.cur.below (push (Below.refl _ _) _).drew
            have p0 := blk_cell hab 0 _ rfl
            have p1 := blk_cell hab 1 _ rfl
            have pA0 := blk_cell (blk_alloc hab (.cells #[.slice none 0 0, .slice none 0 0] 26)) 0 _ rfl
            have pA1 := blk_cell (blk_alloc hab (.cells #[.slice none 0 0, .slice none 0 0] 26)) 1 _ rfl
            have HBA : Hid ((W.alloc (.cells #[.slice none 0 0, .slice none 0 0] 26)).drew.heap[W.heap.size]? = some (.cells #[.slice none 0 0, .slice none 0 0] 26 (0, 0))) := heap_alloc_new W _
            clear hab hn1 hn2 hrow1 hrow2 hown hs4
            go_upto_region 9 with fail
            go_cut [5, 6, 7, 8] (fun v5 v6 v7 v8 wx => v5 = .slice (some ⟨g, 0, none⟩) k lc ∧ v6 = .int .i64 t ∧ CutA w wx cb ao n c (A0 + 4) (.slice (some ⟨g, 0, none⟩) k lc) k v7 v8)
            case first =>
              go_region_with (first
                | (go_at_call 55; (refine Calls.mono (pick_any cb ao n c (A0 + 2) k _ HN0.out HN3.out HN4.out CUD.out) ?_; rintro e w2 ⟨⟨r, rfl, hr⟩, hc2, hk2⟩; have K2 : Hid (Kept W w2 (fun b => b = cb)) := (Kept.of_below (Below.refl _ _).drew).trans hk2; obtain ⟨⟨x0, x1⟩, ⟨hx2, hy2⟩, hh⟩ := RD.out w2 K2.out; obtain ⟨y0, y1⟩ := hh r hr; clear hh; have hsW2 := K2.out.size; have i1 : (r : Int) < (k : Int) := (by omega); have xA0 := cell_alloc x0 (.cells #[.slice none 0 0, .slice none 0 0] 26); have xA1 := cell_alloc x1 (.cells #[.slice none 0 0, .slice none 0 0] 26); have yA0 := cell_alloc y0 (.cells #[.slice none 0 0, .slice none 0 0] 26); have yA1 := cell_alloc y1 (.cells #[.slice none 0 0, .slice none 0 0] 26); have HS2 : Hid (ASit w w2 cb ao n c (A0 + 4) (.slice (some ⟨g, 0, none⟩) k lc) k) := HS4.out.on HLW.out hc2 K2.out))
                | (go_at_call 55; refine Calls.mono (pick_any cb ao n c (A0 + 2) k _ HN0.out HN3.out HN4.out CUA.out) ?_; rintro e w2 ⟨⟨r, rfl, hr⟩, hc2, hk2⟩; have K2 : Hid (Kept W w2 (fun b => b = cb)) := (Kept.of_below (push (Below.refl _ _) _).drew).trans hk2; have hB2 := hk2.blk HBA.out (by have := HLW.out.cb; omega); obtain ⟨⟨x0, x1⟩, ⟨hx2, hy2⟩, hh⟩ := RD.out w2 K2.out; obtain ⟨y0, y1⟩ := hh r hr; clear hh; have hsW2 := K2.out.size; have i1 : (r : Int) < (k : Int) := (by omega); have xA0 := cell_alloc x0 (.cells #[.slice none 0 0, .slice none 0 0] 26); have xA1 := cell_alloc x1 (.cells #[.slice none 0 0, .slice none 0 0] 26); have yA0 := cell_alloc y0 (.cells #[.slice none 0 0, .slice none 0 0] 26); have yA1 := cell_alloc y1 (.cells #[.slice none 0 0, .slice none 0 0] 26); have HS2 : Hid (ASit w w2 cb ao n c (A0 + 4) (.slice (some ⟨g, 0, none⟩) k lc) k) := HS4.out.on HLW.out hc2 K2.out)
                | (go_at_call 120; refine Calls.mono (specDrop_any sa ta sn tm sc tc A U V F _ _ _ (by omega) (by omega) htc htc2 HN1.out HN2.out hx2 hy2) ?_; rintro e w3 ⟨a3, b3, d1, d2, o, rfl, hr3, ha3, hb3⟩; have hB3 := blk_below hB2 hb3; have o0 := blk_cell hB3 0 _ rfl; have o1 := blk_cell hB3 1 _ rfl; have f0 := blk_free hB3 0; have f1 := blk_free hB3 1; have HS3 : Hid (ASit w w3 cb ao n c (A0 + 4) (.slice (some ⟨g, 0, none⟩) k lc) k) := HS2.out.below hb3; have HR3 : Hid (o.c = 0 → ArnIs w3 (w.heap.size + 2) 20 (.slice a3 o.n d1) (.slice b3 o.m d2)) := fun e => (out_rows_arn hr3 (drop_small ha3 e)).base (by omega); clear ha3 hr3)
                | (go_at_call 120; refine Calls.mono (specDrop_any sa ta sn tm sc tc A U V F _ _ _ (by omega) (by omega) htc htc2 HN1.out HN2.out hx2 hy2) ?_; rintro e w3 ⟨a3, b3, d1, d2, o, rfl, hr3, ha3, hb3⟩; have HS3 : Hid (ASit w w3 cb ao n c (A0 + 4) (.slice (some ⟨g, 0, none⟩) k lc) k) := HS2.out.below hb3; have HR3 : Hid (o.c = 0 → ArnIs w3 (w.heap.size + 2) 20 (.slice a3 o.n d1) (.slice b3 o.m d2)) := fun e => (out_rows_arn hr3 (drop_small ha3 e)).base (by omega); clear ha3 hr3)
                | (go_at_call 120; refine Calls.mono (specDrop_any sa ta sn tm sc tc A U V F _ _ _ (by omega) (by omega) htc htc2 HN1.out HN2.out (hx2.below (push (Below.refl _ _) _)) (hy2.below (push (Below.refl _ _) _))) ?_; rintro e w3 ⟨a3, b3, d1, d2, o, rfl, hr3, ha3, hb3⟩; have hB3 := blk_below (heap_alloc_new w2 (.cells #[.slice none 0 0, .slice none 0 0] 26)) hb3; have o0 := blk_cell hB3 0 _ rfl; have o1 := blk_cell hB3 1 _ rfl; have f0 := blk_free hB3 0; have f1 := blk_free hB3 1; have HS3 : Hid (ASit w w3 cb ao n c (A0 + 4) (.slice (some ⟨g, 0, none⟩) k lc) k) := (HS2.out.below (push (Below.refl _ _) _)).below hb3; have HR3 : Hid (o.c = 0 → ArnIs w3 (w.heap.size + 2) 20 (.slice a3 o.n d1) (.slice b3 o.m d2)) := fun e => (out_rows_arn hr3 (drop_small ha3 e)).base (by simp; omega); clear ha3 hr3))
              all_goals (go_wp2; go_meet)
              all_goals first | exact ⟨rfl, rfl, cutA_set HS3.out HLW.out hB3 (by omega) HR3.out⟩ | exact ⟨rfl, rfl, cutA_last HS3.out HR3.out⟩
            case rest =>
              obtain ⟨rfl, rfl, hs5, xb, s', t', code, rfl, rfl, hxb, hx2, har⟩ := hcut
              by_cases hc0 : code = 0
              · subst hc0
                have harn := har rfl
                obtain ⟨qa, qb, qn, qm, qc, qd, QA, QU, QV, QF, rfl, rfl, _⟩ := har rfl
                obtain ⟨s5, t5, hb5, _⟩ := hs5.ex
                have HS6 : Hid (ASit w ((wc.setCell ⟨w.heap.size + 1, 0, none⟩ (.slice qa qn qc)).setCell ⟨w.heap.size + 1, 1, none⟩ (.slice qb qm qd)) cb ao n c (A0 + 4) (.slice (some ⟨g, 0, none⟩) k lc) k) := hs5.put HLW.out harn
                have o0 := blk_cell hb5 0 _ rfl
                have o1 := blk_cell hb5 1 _ rfl
                have f0 := blk_free hb5 0
                have f1 := blk_free hb5 1
                have y0 := blk_cell hxb 0 _ rfl
                have y1 := blk_cell hxb 1 _ rfl
                clear hs5 har harn hb5 hxb
                go_wp2
                go_roundw
                case rel => exact ⟨t - 1, k, by go_num, by omega, HS6.out.more (by rw [HA0.out]; omega)⟩
                case measure => simp [intOf]; omega
              · have e0 : (code == 0) = false := by simpa using hc0
                clear har hxb
                go_wp2
                go_roundw
                case rel => exact ⟨t - 1, k, by go_num, by omega, hs5.more (by rw [HA0.out]; omega)⟩
                case measure => simp [intOf]; omega
          | false =>
            obtain ⟨sa, ta, sn, tm, sc, tc, A, U, V, F, lo', lc', f, hvl, hab, hsn, htm, htc, htc2, hn1, hn2, hrow1, hrow2, hown⟩ := hs4.reads
            cases hvl
            have hsW : w.heap.size + 1 < W.heap.size := blk_lt hab
            have HN1 : Hid (sa = none → sn = 0 ∧ sc = 0) := hn1
            have HN2 : Hid (ta = none → tm = 0 ∧ tc = 0) := hn2
            have HS4 : Hid (ASit w W cb ao n c (A0 + 2) (.slice lo k lc) k) := hs4
            have KS : Hid (∀ w', Kept W w' (fun b => b = cb) → (w'.cell? ⟨w.heap.size + 1, 0, none⟩ = some (.slice sa sn sc) ∧ w'.cell? ⟨w.heap.size + 1, 1, none⟩ = some (.slice ta tm tc))) := fun w' hk => by
              have hb2 := hk.blk hab (by omega)
              exact ⟨blk_cell hb2 0 _ rfl, blk_cell hb2 1 _ rfl⟩
            have RD : Hid (∀ w2, Kept W w2 (fun b => b = cb) → SlotsAt w2 sa sn A U V ∧ IntsAt w2 ta tm F) := fun w2 hk => by
              have hcb := HLW.out.cb
              have e1 : LooseRow w2 (w.heap.size + 2) 106 3 (.slice sa sn sc) sn (slotList A U V sn) := by
                rcases hrow1 with h | ho
                · exact .inl h
                · exact .inr (hk.own ho (fun b hb e => by have := (ho.lt b hb).1; omega))
              have e2 : LooseRow w2 (w.heap.size + 2) 3 1 (.slice ta tm tc) tm (intList F tm) := by
                rcases hrow2 with h | ho
                · exact .inl h
                · exact .inr (hk.own ho (fun b hb e => by have := (ho.lt b hb).1; omega))
              exact ⟨e1.slots, e2.ints⟩
            have CU : Hid (∀ w', Below W.heap.size W w' → CurIs w' cb ao n c (A0 + 2)) := fun w' hb => hs4.cur.below hb
            have HN0 : Hid (A0 + 2 ≤ 900000000) := by show A0 + 2 ≤ 900000000; omega
            have HNE1 : Hid (¬ W.heap.size = cb) := by show ¬ W.heap.size = cb; omega
            have HNE2 : Hid (¬ W.heap.size + 1 = cb) := by show ¬ W.heap.size + 1 = cb; omega
            clear hab hn1 hn2 hrow1 hrow2 hown hs4
            go_upto_region 12 with fail
            go_cut [5, 6, 9, 10, 11] (fun v5 v6 v9 v10 v11 wx => v5 = .slice lo k lc ∧ v6 = .int .i64 t ∧ CutP w wx cb ao n c (A0 + 4) (.slice lo k lc) k v9 v10 v11)
            case first =>
              go_region_held3 (fun w' => w'.cell? ⟨w.heap.size + 1, 0, none⟩ = some (.slice sa sn sc) ∧ w'.cell? ⟨w.heap.size + 1, 1, none⟩ = some (.slice ta tm tc))
                ((refine KS.out _ ?_; exact (by repeat (first | exact Kept.refl _ _ | exact K2.out | refine Kept.drewn ?_ | refine Kept.more ?_ _ | refine Kept.far ?_ (by omega) _ | refine Kept.trans ?_ (Kept.of_below hb3)))))
                (first
                  | (go_at_call 55; refine Calls.mono (pick_any cb ao n c (A0 + 2) 9 _ HN0.out (by omega) (by omega) (CU.out _ (by repeat (first | exact Below.refl _ _ | refine Below.drew ?_ | refine push ?_ _)))) ?_; rintro e w2 ⟨⟨r, rfl, hr⟩, hc2, hk2⟩; have K2 : Hid (Kept W w2 (fun b => b = cb)) := (Kept.of_below (by repeat (first | exact Below.refl _ _ | refine Below.drew ?_ | refine push ?_ _))).trans hk2; have hs2 : W.heap.size ≤ w2.heap.size := K2.out.size; have HC2 : Hid (CurIs w2 cb ao n c (A0 + 4)) := hc2; obtain ⟨hx2, hy2⟩ := RD.out w2 K2.out; (first | (have hA2 : w2.heap[W.heap.size]? = some (.cells #[.slice none 0 0, .slice none 0 0] 26 (0, 0)) := hk2.blk (by first | exact heap_alloc_new W _ | exact blk_alloc (heap_alloc_new W _) _) HNE1.out) | (have hA2 : w2.heap[W.heap.size + 1]? = some (.cells #[.slice none 0 0, .slice none 0 0] 26 (0, 0)) := hk2.blk (new2 W _ _) HNE2.out) | skip); (first | (have hH2 : w2.heap[W.heap.size]? = some (.cells #[.int .i64 0, .int .i64 0] 30 (0, 0)) := hk2.blk (by first | exact heap_alloc_new W _ | exact blk_alloc (heap_alloc_new W _) _) HNE1.out) | (have hH2 : w2.heap[W.heap.size + 1]? = some (.cells #[.int .i64 0, .int .i64 0] 30 (0, 0)) := hk2.blk (new2 W _ _) HNE2.out) | skip); clear hc2 hk2)
                  | (go_at_call 10; refine Calls.mono (specPut_any sa ta sn tm sc tc A U V F _ _ (by omega) (by omega) htc htc2 HN1.out HN2.out (hx2.below (by repeat (first | exact Below.refl _ _ | refine Below.drew ?_ | refine push ?_ _))) (hy2.below (by repeat (first | exact Below.refl _ _ | refine Below.drew ?_ | refine push ?_ _)))) ?_; rintro e w3 ⟨a3, b3, d1, d2, o, rfl, hr3, ha3, hb3⟩; have hs3 : w2.heap.size ≤ w3.heap.size := (by have := hb3.size; first | omega | (simp at this; omega)); have PA : Hid (PutAt w W w2 w3 cb ao n c (A0 + 2) (A0 + 4) (.slice lo k lc) k o.1.c (.slice a3 o.1.n d1) (.slice b3 o.1.m d2)) := ⟨HS4.out, HLW.out, HC2.out, K2.out, after (by repeat (first | exact Below.refl _ _ | refine Below.drew ?_ | refine push ?_ _)) hb3, fun e => (out_loose_arn hr3 (put_small ha3 e)).base (by first | omega | (simp only [World.size_alloc]; omega))⟩; (first | (have hA3 : w3.heap[W.heap.size]? = some (.cells #[.slice none 0 0, .slice none 0 0] 26 (0, 0)) := blk_below (by first | exact hA2 | exact blk_alloc hA2 _ | exact blk_alloc (blk_alloc hA2 _) _) hb3; have yA0 := blk_cell hA3 0 _ rfl; have yA1 := blk_cell hA3 1 _ rfl; have qA0 := blk_free hA3 0; have qA1 := blk_free hA3 1; have mA := Nat.ne_of_lt (blk_lt hA3); have rA := (Nat.ne_of_lt (blk_lt hA3)).symm; have kA00 := blk_cell (blk_alloc hA3 (.cells #[.int .i64 0, .int .i64 0] 30)) 0 _ rfl; have jA00 := blk_free (blk_alloc hA3 (.cells #[.int .i64 0, .int .i64 0] 30)) 0; have kA01 := blk_cell (blk_alloc hA3 (.cells #[.int .i64 0, .int .i64 0] 30)) 1 _ rfl; have jA01 := blk_free (blk_alloc hA3 (.cells #[.int .i64 0, .int .i64 0] 30)) 1) | (have hA3 : w3.heap[W.heap.size + 1]? = some (.cells #[.slice none 0 0, .slice none 0 0] 26 (0, 0)) := blk_below (by first | exact hA2 | exact blk_alloc hA2 _ | exact blk_alloc (blk_alloc hA2 _) _) hb3; have yA0 := blk_cell hA3 0 _ rfl; have yA1 := blk_cell hA3 1 _ rfl; have qA0 := blk_free hA3 0; have qA1 := blk_free hA3 1; have mA := Nat.ne_of_lt (blk_lt hA3); have rA := (Nat.ne_of_lt (blk_lt hA3)).symm; have kA00 := blk_cell (blk_alloc hA3 (.cells #[.int .i64 0, .int .i64 0] 30)) 0 _ rfl; have jA00 := blk_free (blk_alloc hA3 (.cells #[.int .i64 0, .int .i64 0] 30)) 0; have kA01 := blk_cell (blk_alloc hA3 (.cells #[.int .i64 0, .int .i64 0] 30)) 1 _ rfl; have jA01 := blk_free (blk_alloc hA3 (.cells #[.int .i64 0, .int .i64 0] 30)) 1) | (have hA3 : w3.heap[w2.heap.size]? = some (.cells #[.slice none 0 0, .slice none 0 0] 26 (0, 0)) := blk_below (by first | exact heap_alloc_new w2 _ | exact blk_alloc (heap_alloc_new w2 _) _) hb3; have yA0 := blk_cell hA3 0 _ rfl; have yA1 := blk_cell hA3 1 _ rfl; have qA0 := blk_free hA3 0; have qA1 := blk_free hA3 1; have mA := Nat.ne_of_lt (blk_lt hA3); have rA := (Nat.ne_of_lt (blk_lt hA3)).symm; have kA00 := blk_cell (blk_alloc hA3 (.cells #[.int .i64 0, .int .i64 0] 30)) 0 _ rfl; have jA00 := blk_free (blk_alloc hA3 (.cells #[.int .i64 0, .int .i64 0] 30)) 0; have kA01 := blk_cell (blk_alloc hA3 (.cells #[.int .i64 0, .int .i64 0] 30)) 1 _ rfl; have jA01 := blk_free (blk_alloc hA3 (.cells #[.int .i64 0, .int .i64 0] 30)) 1) | (have hA3 : w3.heap[w2.heap.size + 1]? = some (.cells #[.slice none 0 0, .slice none 0 0] 26 (0, 0)) := blk_below (new2 w2 _ _) hb3; have yA0 := blk_cell hA3 0 _ rfl; have yA1 := blk_cell hA3 1 _ rfl; have qA0 := blk_free hA3 0; have qA1 := blk_free hA3 1; have mA := Nat.ne_of_lt (blk_lt hA3); have rA := (Nat.ne_of_lt (blk_lt hA3)).symm; have kA00 := blk_cell (blk_alloc hA3 (.cells #[.int .i64 0, .int .i64 0] 30)) 0 _ rfl; have jA00 := blk_free (blk_alloc hA3 (.cells #[.int .i64 0, .int .i64 0] 30)) 0; have kA01 := blk_cell (blk_alloc hA3 (.cells #[.int .i64 0, .int .i64 0] 30)) 1 _ rfl; have jA01 := blk_free (blk_alloc hA3 (.cells #[.int .i64 0, .int .i64 0] 30)) 1) | skip); (first | (have hH3 : w3.heap[W.heap.size]? = some (.cells #[.int .i64 0, .int .i64 0] 30 (0, 0)) := blk_below (by first | exact hH2 | exact blk_alloc hH2 _ | exact blk_alloc (blk_alloc hH2 _) _) hb3; have yH0 := blk_cell hH3 0 _ rfl; have yH1 := blk_cell hH3 1 _ rfl; have qH0 := blk_free hH3 0; have qH1 := blk_free hH3 1; have mH := Nat.ne_of_lt (blk_lt hH3); have rH := (Nat.ne_of_lt (blk_lt hH3)).symm; have kH00 := blk_cell (blk_alloc hH3 (.cells #[.slice a3 o.1.n d1, .slice b3 o.1.m d2] 26)) 0 _ rfl; have jH00 := blk_free (blk_alloc hH3 (.cells #[.slice a3 o.1.n d1, .slice b3 o.1.m d2] 26)) 0; have kH01 := blk_cell (blk_alloc hH3 (.cells #[.slice a3 o.1.n d1, .slice b3 o.1.m d2] 26)) 1 _ rfl; have jH01 := blk_free (blk_alloc hH3 (.cells #[.slice a3 o.1.n d1, .slice b3 o.1.m d2] 26)) 1; have kH10 := blk_cell (blk_alloc hH3 (.cells #[.slice none 0 0, .slice none 0 0] 26)) 0 _ rfl; have jH10 := blk_free (blk_alloc hH3 (.cells #[.slice none 0 0, .slice none 0 0] 26)) 0; have kH11 := blk_cell (blk_alloc hH3 (.cells #[.slice none 0 0, .slice none 0 0] 26)) 1 _ rfl; have jH11 := blk_free (blk_alloc hH3 (.cells #[.slice none 0 0, .slice none 0 0] 26)) 1) | (have hH3 : w3.heap[W.heap.size + 1]? = some (.cells #[.int .i64 0, .int .i64 0] 30 (0, 0)) := blk_below (by first | exact hH2 | exact blk_alloc hH2 _ | exact blk_alloc (blk_alloc hH2 _) _) hb3; have yH0 := blk_cell hH3 0 _ rfl; have yH1 := blk_cell hH3 1 _ rfl; have qH0 := blk_free hH3 0; have qH1 := blk_free hH3 1; have mH := Nat.ne_of_lt (blk_lt hH3); have rH := (Nat.ne_of_lt (blk_lt hH3)).symm; have kH00 := blk_cell (blk_alloc hH3 (.cells #[.slice a3 o.1.n d1, .slice b3 o.1.m d2] 26)) 0 _ rfl; have jH00 := blk_free (blk_alloc hH3 (.cells #[.slice a3 o.1.n d1, .slice b3 o.1.m d2] 26)) 0; have kH01 := blk_cell (blk_alloc hH3 (.cells #[.slice a3 o.1.n d1, .slice b3 o.1.m d2] 26)) 1 _ rfl; have jH01 := blk_free (blk_alloc hH3 (.cells #[.slice a3 o.1.n d1, .slice b3 o.1.m d2] 26)) 1; have kH10 := blk_cell (blk_alloc hH3 (.cells #[.slice none 0 0, .slice none 0 0] 26)) 0 _ rfl; have jH10 := blk_free (blk_alloc hH3 (.cells #[.slice none 0 0, .slice none 0 0] 26)) 0; have kH11 := blk_cell (blk_alloc hH3 (.cells #[.slice none 0 0, .slice none 0 0] 26)) 1 _ rfl; have jH11 := blk_free (blk_alloc hH3 (.cells #[.slice none 0 0, .slice none 0 0] 26)) 1) | (have hH3 : w3.heap[w2.heap.size]? = some (.cells #[.int .i64 0, .int .i64 0] 30 (0, 0)) := blk_below (by first | exact heap_alloc_new w2 _ | exact blk_alloc (heap_alloc_new w2 _) _) hb3; have yH0 := blk_cell hH3 0 _ rfl; have yH1 := blk_cell hH3 1 _ rfl; have qH0 := blk_free hH3 0; have qH1 := blk_free hH3 1; have mH := Nat.ne_of_lt (blk_lt hH3); have rH := (Nat.ne_of_lt (blk_lt hH3)).symm; have kH00 := blk_cell (blk_alloc hH3 (.cells #[.slice a3 o.1.n d1, .slice b3 o.1.m d2] 26)) 0 _ rfl; have jH00 := blk_free (blk_alloc hH3 (.cells #[.slice a3 o.1.n d1, .slice b3 o.1.m d2] 26)) 0; have kH01 := blk_cell (blk_alloc hH3 (.cells #[.slice a3 o.1.n d1, .slice b3 o.1.m d2] 26)) 1 _ rfl; have jH01 := blk_free (blk_alloc hH3 (.cells #[.slice a3 o.1.n d1, .slice b3 o.1.m d2] 26)) 1; have kH10 := blk_cell (blk_alloc hH3 (.cells #[.slice none 0 0, .slice none 0 0] 26)) 0 _ rfl; have jH10 := blk_free (blk_alloc hH3 (.cells #[.slice none 0 0, .slice none 0 0] 26)) 0; have kH11 := blk_cell (blk_alloc hH3 (.cells #[.slice none 0 0, .slice none 0 0] 26)) 1 _ rfl; have jH11 := blk_free (blk_alloc hH3 (.cells #[.slice none 0 0, .slice none 0 0] 26)) 1) | (have hH3 : w3.heap[w2.heap.size + 1]? = some (.cells #[.int .i64 0, .int .i64 0] 30 (0, 0)) := blk_below (new2 w2 _ _) hb3; have yH0 := blk_cell hH3 0 _ rfl; have yH1 := blk_cell hH3 1 _ rfl; have qH0 := blk_free hH3 0; have qH1 := blk_free hH3 1; have mH := Nat.ne_of_lt (blk_lt hH3); have rH := (Nat.ne_of_lt (blk_lt hH3)).symm; have kH00 := blk_cell (blk_alloc hH3 (.cells #[.slice a3 o.1.n d1, .slice b3 o.1.m d2] 26)) 0 _ rfl; have jH00 := blk_free (blk_alloc hH3 (.cells #[.slice a3 o.1.n d1, .slice b3 o.1.m d2] 26)) 0; have kH01 := blk_cell (blk_alloc hH3 (.cells #[.slice a3 o.1.n d1, .slice b3 o.1.m d2] 26)) 1 _ rfl; have jH01 := blk_free (blk_alloc hH3 (.cells #[.slice a3 o.1.n d1, .slice b3 o.1.m d2] 26)) 1; have kH10 := blk_cell (blk_alloc hH3 (.cells #[.slice none 0 0, .slice none 0 0] 26)) 0 _ rfl; have jH10 := blk_free (blk_alloc hH3 (.cells #[.slice none 0 0, .slice none 0 0] 26)) 0; have kH11 := blk_cell (blk_alloc hH3 (.cells #[.slice none 0 0, .slice none 0 0] 26)) 1 _ rfl; have jH11 := blk_free (blk_alloc hH3 (.cells #[.slice none 0 0, .slice none 0 0] 26)) 1) | skip); (first | (have nAH := blk_ne hA3 hH3 (by decide); have nHA := blk_ne hH3 hA3 (by decide)) | skip); clear hr3 ha3))
              all_goals (go_wp2; go_meet)
              all_goals refine ⟨rfl, rfl, ?_⟩
              all_goals first | with_reducible exact cutP_1 PA.out | with_reducible exact cutP_2 PA.out | with_reducible exact cutP_3 PA.out hA3 (by omega) | with_reducible exact cutP_4 PA.out hA3 (by omega) hH3 (by omega) | with_reducible exact cutP_5 PA.out hH3 (by omega)
            case rest =>
              obtain ⟨rfl, rfl, hs5, xb, yb, s', t', x, y, code, rfl, rfl, rfl, hxb, hyb, hx2, hy2, har⟩ := hcut
              by_cases hc0 : code = 0
              · subst hc0
                have harn := har rfl
                obtain ⟨qa, qb, qn, qm, qc, qd, QA, QU, QV, QF, rfl, rfl, _⟩ := har rfl
                obtain ⟨j0, ji, jz0, jz1, jz2⟩ := info_parts Try.infoHandle
                obtain ⟨s5, t5, hb5, _⟩ := hs5.ex
                have hs6 : ASit w ((wc.setCell ⟨w.heap.size + 1, 0, none⟩ (.slice qa qn qc)).setCell ⟨w.heap.size + 1, 1, none⟩ (.slice qb qm qd)) cb ao n c (A0 + 4) (.slice lo k lc) k := hs5.put HLW.out harn
                have hy6 := blk_set_other (blk_set_other hyb 0 (.slice qa qn qc) (show yb ≠ w.heap.size + 1 by omega)) 1 (.slice qb qm qd) (show yb ≠ w.heap.size + 1 by omega)
                have o0 := blk_cell hb5 0 _ rfl
                have o1 := blk_cell hb5 1 _ rfl
                have f0 := blk_free hb5 0
                have f1 := blk_free hb5 1
                have y0 := blk_cell hxb 0 _ rfl
                have y1 := blk_cell hxb 1 _ rfl
                go_upto_region 15 with fail
                clear hs5 har harn hb5 hxb hyb o0 o1 f0 f1 y0 y1
                generalize (wc.setCell ⟨w.heap.size + 1, 0, none⟩ (.slice qa qn qc)).setCell ⟨w.heap.size + 1, 1, none⟩ (.slice qb qm qd) = W6 at hs6 hy6 ⊢
                obtain ⟨f6, hown⟩ := hs6.own
                have v0 := blk_cell hy6 0 _ rfl
                have v1 := blk_cell hy6 1 _ rfl
                have hz6 : w.heap.size + 2 ≤ W6.heap.size := by obtain ⟨_, _, h1, _⟩ := hs6.ex; have := blk_lt h1; omega
                have HS6 : Hid (ASit w W6 cb ao n c (A0 + 4) (.slice lo k lc) k) := hs6
                have HC : Hid (∀ ad, (some ⟨W6.heap.size, 0, none⟩ : Option Addr) = some ad → ∀ j u, [Value.int .i64 x, .int .i64 y][j]? = some u → (W6.alloc (.cells #[.int .i64 x, .int .i64 y] 30)).cell? (ad.add j) = some u) := by
                  intro ad e
                  cases e
                  exact World.news_of_block (heap_alloc_new W6 _)
                clear hy6 hs6
                go_wp2_with (first | (at_builtin; refine wpList_append_any _ (by rfl) (.tmp 54) (.tmp 56) 91 (by rfl) (w.heap.size + 2) 30 j0 (.agg #[.int .i64 0, .int .i64 0]) 2 16 Try.underlying91 ji jz0 jz1 jz2 rfl (by decide) _ k (handList f6 k) (by rfl) (hown.alloc _) (some ⟨W6.heap.size, 0, none⟩) 1 1 [.int .i64 x, .int .i64 y] (by rfl) (fun h => (by cases h)) (by rfl) HC.out (by intro u hu; simp at hu; rcases hu with rfl | rfl <;> rfl) (by unfold maxLen; omega) (by omega) (by simp; omega) ?_; intro v' w9 ho9 hg9))
                go_roundw
                case rel => exact ⟨t - 1, k + 1, by go_num, by omega, ((HS6.out.below (push (Below.refl _ _) _)).app HLW.out (hown.alloc _) hg9 (f' := put f6 k (x, y)) (by rw [handList_put]; exact ho9)).more (by rw [HA0.out]; omega)⟩
                case measure => simp [intOf]; omega
              · have e0 : (code == 0) = false := by simpa using hc0
                clear har hxb hyb
                go_wp2
                go_roundw
                case rel => exact ⟨t - 1, k, by go_num, by omega, hs5.more (by rw [HA0.out]; omega)⟩
                case measure => simp [intOf]; omega

end Go.Proofs.Ytclcjnbjpelcjaa
