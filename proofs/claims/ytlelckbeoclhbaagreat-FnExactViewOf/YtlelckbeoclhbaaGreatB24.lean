/-
  OWN TEXT: FreeI, DeckI, RoomIn, PlainR6.
-/
import Derived.Test.YtlelckbeoclhbaaGreatB23
import Derived.Test.YtlelckbeoclhbaaGreatB22
import Derived.Test.YtlelckbeoclhbaaGreatB18
import Derived.Test.YtlelckbeoclhbaaGreatB21
import Derived.Test.YtlelckbeoclhbaaGreatB00
import Derived.Test.YtlelckbeoclhbaaGreatB11
set_option maxHeartbeats 12800000
set_option maxRecDepth 100000
namespace Go.Proofs.YtlelckbeoclhbaaGreat
open Go.RowKit
def four (F : Nat → Int) : Value := .agg #[.int .i64 (F 0), .int .i64 (F 1), .int .i64 (F 2), .int .i64 (F 3)]
def FreeAns (p : Pairs) (n : Nat) (S : Nat → Stay) (e : Ending) : Prop :=
  (DeckI p n S ∧ e = .returned (.tuple #[four (freeAt p S n), .bool true])) ∨ (¬ DeckI p n S ∧ e = .returned (.tuple #[four (fun _ => 0), .bool false]))
theorem four_set {w : World} {g t : Nat} {u0 u1 u2 u3 : Value} (h : w.heap[g]? = some (.cells #[u0, u1, u2, u3] t (0, 0))) (v0 v1 v2 v3 : Value) :
    ((((w.setCell ⟨g, 0, none⟩ v0).setCell ⟨g, 1, none⟩ v1).setCell ⟨g, 2, none⟩ v2).setCell ⟨g, 3, none⟩ v3).heap[g]? = some (.cells #[v0, v1, v2, v3] t (0, 0)) := by
  have := blk_set (blk_set (blk_set (blk_set h 0 v0) 1 v1) 2 v2) 3 v3
  simpa using this
theorem four_below {w w' : World} {g : Nat} (h : Below w.heap.size w w') (hg : w.heap.size ≤ g) (v0 v1 v2 v3 : Value) : Below w.heap.size w ((((w'.setCell ⟨g, 0, none⟩ v0).setCell ⟨g, 1, none⟩ v1).setCell ⟨g, 2, none⟩ v2).setCell ⟨g, 3, none⟩ v3) :=
  (((h.setCell hg _).setCell hg _).setCell hg _).setCell hg _
theorem zero_row {w : World} {g t : Nat} (h : w.heap[g]? = some (.cells #[.int .i64 0, .int .i64 0, .int .i64 0, .int .i64 0] t (0, 0))) : w.rowIs g t 4 (fun k => .int .i64 (upto 0 (fun _ => (0 : Int)) 0 k)) := by
  refine ⟨_, h, rfl, fun i hi => ?_⟩
  have : i = 0 ∨ i = 1 ∨ i = 2 ∨ i = 3 := by omega
  rcases this with rfl | rfl | rfl | rfl <;> rfl
theorem freeOnDeck_any (ao bo : Option Addr) (m mc n c : Nat) (p : Pairs) (S : Nat → Stay) (w : World) (hl : p.n = m) (hm : m ≤ 1048576) (hn : n ≤ 1048576) (hc : n ≤ c) (hx : PairsAt w ao p) (hz : StaysAt w bo n S) :
    Calls Tryz.prog 144 #[.slice ao m mc, .slice bo n c] w fun e w' => FreeAns p n S e ∧ Below w.heap.size w w' := by
  have HL : Hid (p.n = m) := hl
  have HX : Hid (PairsAt w ao p) := hx
  have HZ : Hid (StaysAt w bo n S) := hz
  clear hl hx hz
  have hb0 : Below w.heap.size w (w.alloc (.cells #[.int .i64 0, .int .i64 0, .int .i64 0, .int .i64 0] 204)) := push (Below.refl _ _) _
  have r0 : (w.alloc (.cells #[.int .i64 0, .int .i64 0, .int .i64 0, .int .i64 0] 204)).heap[w.heap.size]? = some (.cells #[.int .i64 0, .int .i64 0, .int .i64 0, .int .i64 0] 204 (0, 0)) := heap_alloc_new w _
  go_enter Tryz.func144, Tryz.ntmps144
  go_wp2_with fail
  refine (goodLanes_any ao m mc p _ HL.out hm (HX.out.below hb0)).mono ?_
  rintro e w1 ⟨⟨q, rfl, hq⟩, hb1⟩
  have bw1 := after hb0 hb1
  have r1 := blk_below r0 hb1
  clear hb0 r0 hb1
  cases q with
  | false =>
    have o0 := blk_cell r1 0 _ rfl
    have o1 := blk_cell r1 1 _ rfl
    have o2 := blk_cell r1 2 _ rfl
    have o3 := blk_cell r1 3 _ rfl
    have f0 := blk_free r1 0
    have f1 := blk_free r1 1
    have f2 := blk_free r1 2
    have f3 := blk_free r1 3
    have HG : Hid (¬ GoodL p) := fun h => by have := hq.2 h; cases this
    clear hq
    go_wp2
    have rF := four_set r1 (.int .i64 0) (.int .i64 0) (.int .i64 0) (.int .i64 0)
    have q0 := blk_cell rF 0 _ rfl
    have q1 := blk_cell rF 1 _ rfl
    have q2 := blk_cell rF 2 _ rfl
    have q3 := blk_cell rF 3 _ rfl
    exact bodyPost_ret (v := .tuple #[four (fun _ => 0), .bool false]) (by simp [results, Tryz.results144, go_sem, q0, q1, q2, q3, four]) rfl ⟨.inr ⟨fun h => HG.out h.1, rfl⟩, four_below bw1 (Nat.le_refl _) _ _ _ _⟩
  | true =>
    have HG : Hid (GoodL p) := hq.1 rfl
    have hm4 : m ≤ 4 := by rw [← HL.out]; exact HG.out.1
    clear hq
    by_cases h60 : n ≤ 60
    · have d0 : decide (60 < n) = false := by simp; omega
      go_upto_region 4 with fail
      have r2 := blk_alloc r1 (.cells #[.int .i64 0, .int .i64 0, .int .i64 0, .int .i64 0] 204)
      have x2 := zero_row (heap_alloc_new w1 (.cells #[.int .i64 0, .int .i64 0, .int .i64 0, .int .i64 0] 204))
      have bw2 := push bw1 (.cells #[.int .i64 0, .int .i64 0, .int .i64 0, .int .i64 0] 204)
      have hf : w.heap.size < w1.heap.size := blk_lt r1
      generalize w1.alloc (.cells #[.int .i64 0, .int .i64 0, .int .i64 0, .int .i64 0] 204) = w2 at r2 x2 bw2 ⊢
      generalize w1.heap.size = f at hf x2 ⊢
      clear r1 bw1
      go_wp2
      go_loopw [7, 21] (fun _ i wr => ∃ k : Nat, k ≤ m ∧ i = .int .i64 k ∧ wr.rowIs f 204 4 (fun j => .int .i64 (upto k p.A 0 j)) ∧ wr.heap[w.heap.size]? = some (.cells #[.int .i64 0, .int .i64 0, .int .i64 0, .int .i64 0] 204 (0, 0)) ∧ Below w.heap.size w wr) (fun _ i _ => m - (intOf i).toNat)
      case atStart => exact ⟨0, Nat.zero_le _, rfl, x2.congr (fun j _ => by unfold upto; rw [if_neg (Nat.not_lt_zero _), if_neg (Nat.not_lt_zero _)]), r2, bw2⟩
      case round =>
        obtain ⟨k, hk, rfl, hrow, hr, hbel⟩ := hrel
        clear r2 x2 bw2
        by_cases hlt : k < m
        · obtain ⟨b, off, rfl, h1, h2⟩ := HX.out k (by rw [HL.out]; exact hlt)
          have hb := World.block_lt_of_cell? w _ h1
          have c1 := (hbel.cell (p := ⟨b, off + k * 2, none⟩) hb).trans h1
          have o0 := hrow.cell (i := k) (by omega)
          have f0 := hrow.frozen k
          have i1 : (0 : Int) ≤ (k : Int) := by omega
          have i2 : (k : Int) < 4 := by omega
          clear h1 h2
          go_wp2
          go_roundw
          case rel => exact ⟨k + 1, by omega, by go_num, (hrow.set k _).congr (fun j _ => by
            by_cases e : j = k
            · subst e; rw [if_pos rfl, upto_lt _ _ (Nat.lt_succ_self _)]
            · rw [if_neg e, upto_step _ _ _ _ e]), blk_set_other hr _ _ (by omega), hbel.setCell (by show w.heap.size ≤ f; omega) _⟩
          case measure => simp [intOf]; omega
        · obtain rfl : k = m := by omega
          have hrow' : wr.rowIs f 204 4 (fun j => .int .i64 (freeAt p S 0 j)) := hrow.congr (fun j _ => by rw [freeAt_0, HL.out])
          clear hrow
          go_wp2
          go_loopw [8, 9, 34] (fun _ _ i wr => ∃ k : Nat, k ≤ n ∧ i = .int .i64 k ∧ (∀ j, j < k → ¬ Has (whoS S) j (S j).who ∧ Fits p (left p S j) (S j)) ∧ wr.rowIs f 204 4 (fun j => .int .i64 (freeAt p S k j)) ∧ wr.heap[w.heap.size]? = some (.cells #[.int .i64 0, .int .i64 0, .int .i64 0, .int .i64 0] 204 (0, 0)) ∧ Below w.heap.size w wr) (fun _ _ i _ => n - (intOf i).toNat)
          case atStart => exact ⟨0, Nat.zero_le _, rfl, fun j hj => by omega, hrow', hr, hbel⟩
          case round =>
            obtain ⟨i, hi, rfl, hall, hrow2, hr2, hbel2⟩ := hrel
            have HA : Hid (∀ j, j < i → ¬ Has (whoS S) j (S j).who ∧ Fits p (left p S j) (S j)) := hall
            clear hall hrow' hr hbel
            by_cases hlt2 : i < n
            · obtain ⟨b, off, rfl, h0, h1, h2, h3⟩ := HZ.out i hlt2
              have hb := World.block_lt_of_cell? w _ h0
              have c0 := (hbel2.cell (p := ⟨b, off + i * 4, none⟩) hb).trans h0
              have c1 := (hbel2.cell (p := ⟨b, off + i * 4 + 1, none⟩) hb).trans h1
              have c2 := (hbel2.cell (p := ⟨b, off + i * 4 + 2, none⟩) hb).trans h2
              have c3 := (hbel2.cell (p := ⟨b, off + i * 4 + 3, none⟩) hb).trans h3
              have hbox := heap_alloc_new wr (.cells #[.int .i64 (S i).who, .int .i64 (S i).ln, .int .i64 (S i).len, .int .i64 (S i).hei] 118)
              have hbx := push hbel2 (.cells #[.int .i64 (S i).who, .int .i64 (S i).ln, .int .i64 (S i).len, .int .i64 (S i).hei] 118)
              have hrx := blk_alloc hr2 (.cells #[.int .i64 (S i).who, .int .i64 (S i).ln, .int .i64 (S i).len, .int .i64 (S i).hei] 118)
              have hrw := row_below hrow2 (push (Below.refl _ wr) (.cells #[.int .i64 (S i).who, .int .i64 (S i).ln, .int .i64 (S i).len, .int .i64 (S i).hei] 118))
              clear h0 h1 h2 h3
              go_upto_region 12 with fail
              generalize hW : wr.alloc (.cells #[.int .i64 (S i).who, .int .i64 (S i).ln, .int .i64 (S i).len, .int .i64 (S i).hei] 118) = W at hbox hbx hrx hrw ⊢
              clear hW
              have hsW : wr.heap.size < W.heap.size := blk_lt hbox
              have hfW : f < W.heap.size := hrw.lt
              have HRW : Hid (W.rowIs f 204 4 (fun j => .int .i64 (freeAt p S i j))) := hrw
              have z0 : ∀ g : Grown W, g.val.cell? ⟨wr.heap.size, 0, none⟩ = some (.int .i64 (S i).who) := fun g => (g.bel.cell hsW).trans (blk_cell hbox 0 _ rfl)
              have z1 : ∀ g : Grown W, g.val.cell? ⟨wr.heap.size, 1, none⟩ = some (.int .i64 (S i).ln) := fun g => (g.bel.cell hsW).trans (blk_cell hbox 1 _ rfl)
              have z2 : ∀ g : Grown W, g.val.cell? ⟨wr.heap.size, 2, none⟩ = some (.int .i64 (S i).len) := fun g => (g.bel.cell hsW).trans (blk_cell hbox 2 _ rfl)
              have z3 : ∀ g : Grown W, g.val.cell? ⟨wr.heap.size, 3, none⟩ = some (.int .i64 (S i).hei) := fun g => (g.bel.cell hsW).trans (blk_cell hbox 3 _ rfl)
              have y0 : ∀ g : Grown W, g.val.cell? ⟨f, 0, none⟩ = some (.int .i64 (freeAt p S i 0)) := fun g => (g.bel.cell hfW).trans (hrw.cell (i := 0) (by omega))
              have y1 : ∀ g : Grown W, g.val.cell? ⟨f, 1, none⟩ = some (.int .i64 (freeAt p S i 1)) := fun g => (g.bel.cell hfW).trans (hrw.cell (i := 1) (by omega))
              have y2 : ∀ g : Grown W, g.val.cell? ⟨f, 2, none⟩ = some (.int .i64 (freeAt p S i 2)) := fun g => (g.bel.cell hfW).trans (hrw.cell (i := 2) (by omega))
              have y3 : ∀ g : Grown W, g.val.cell? ⟨f, 3, none⟩ = some (.int .i64 (freeAt p S i 3)) := fun g => (g.bel.cell hfW).trans (hrw.cell (i := 3) (by omega))
              have i1 : (0 : Int) ≤ (i : Int) := by omega
              have i2 : (i : Int) ≤ (c : Int) := by omega
              clear c0 c1 c2 c3 hbox hrow2 hr2 hbel2 hrw
              by_cases hh : Has (whoS S) i (S i).who
              · have e1 : decide (0 ≤ ixAns (whoS S) (S i).who i) = true := decide_eq_true ((ixAns_has _ _ _).2 hh)
                have HH : Hid (Has (whoS S) i (S i).who) := hh
                clear hh
                refine wp_region_grow (by kernel_rfl) (by kernel_rfl) ?_
                repeat (first | go_big_quiet_skip | (go_big_quiet_want; go_big_quiet_op; first | go_big_quiet_on | (apply Exists.intro; refine ⟨fun g => ?_, ?_⟩; (focus (first | (go_at_call 124; refine grown_call (v := .int .i64 (ixAns (whoS S) (S i).who i)) ((stayOf_any _ i c S (S i).who _ (by omega) ((HZ.out.upto (by omega)).below (after hbx g.bel))).mono ?_); rintro e w4 ⟨rfl, hbb⟩; exact ⟨rfl, hbb⟩))); go_big_quiet_on)))
                refine wpQuiet_nil ?_
                rintro _ ⟨g, rfl⟩
                have rg := blk_below hrx g.bel
                have o0 := blk_cell rg 0 _ rfl
                have o1 := blk_cell rg 1 _ rfl
                have o2 := blk_cell rg 2 _ rfl
                have o3 := blk_cell rg 3 _ rfl
                have f0 := blk_free rg 0
                have f1 := blk_free rg 1
                have f2 := blk_free rg 2
                have f3 := blk_free rg 3
                go_wp2
                have rF := four_set rg (.int .i64 0) (.int .i64 0) (.int .i64 0) (.int .i64 0)
                have q0 := blk_cell rF 0 _ rfl
                have q1 := blk_cell rF 1 _ rfl
                have q2 := blk_cell rF 2 _ rfl
                have q3 := blk_cell rF 3 _ rfl
                exact bodyPost_ret (v := .tuple #[four (fun _ => 0), .bool false]) (by simp [results, Tryz.results144, go_sem, q0, q1, q2, q3, four]) rfl ⟨.inr ⟨fun h => (h.2.2 i hlt2).1 HH.out, rfl⟩, four_below (after hbx g.bel) (Nat.le_refl _) _ _ _ _⟩
              · have e1 : decide (0 ≤ ixAns (whoS S) (S i).who i) = false := decide_eq_false (fun h => hh ((ixAns_has _ _ _).1 h))
                have HH : Hid (¬ Has (whoS S) i (S i).who) := hh
                clear hh
                by_cases hfit : Fits p (freeAt p S i) (S i)
                · have HF : Hid (Fits p (freeAt p S i) (S i)) := hfit
                  clear hfit
                  refine wp_region_grow (by kernel_rfl) (by kernel_rfl) ?_
                  repeat (first | go_big_quiet_skip | (go_big_quiet_want; go_big_quiet_op; first | go_big_quiet_on | (apply Exists.intro; refine ⟨fun g => ?_, ?_⟩; (focus (first | (go_at_call 124; refine grown_call (v := .int .i64 (ixAns (whoS S) (S i).who i)) ((stayOf_any _ i c S (S i).who _ (by omega) ((HZ.out.upto (by omega)).below (after hbx g.bel))).mono ?_); rintro e w4 ⟨rfl, hbb⟩; exact ⟨rfl, hbb⟩) | (go_at_call 167; refine grown_call (v := .bool true) ((fitsOn_any _ _ mc p (freeAt p S i) (S i).who (S i).ln (S i).len (S i).hei _ HL.out hm4 (HX.out.below (after hbx g.bel))).mono ?_); rintro e w4 ⟨⟨bb, rfl, hi⟩, hbb⟩; obtain rfl := hi.2 HF.out; exact ⟨rfl, hbb⟩))); go_big_quiet_on)))
                  refine wpQuiet_nil ?_
                  rintro _ ⟨g, rfl⟩
                  obtain ⟨l, hl⟩ : ∃ l : Nat, (S i).ln = l := ⟨(S i).ln.toNat, by have := HF.out.ln; unfold In at this; omega⟩
                  have hlm : l < p.n := by have := HF.out.ln; unfold In at this; omega
                  have HLN : Hid ((S i).ln = l) := hl
                  have l4 : l < 4 := by have := HL.out; omega
                  have v1 : g.val.cell? ⟨wr.heap.size, 1, none⟩ = some (.int .i64 (l : Int)) := by rw [z1 g, hl]
                  have v2 := z2 g
                  have rwg := row_below HRW.out g.bel
                  have v3 := rwg.cell (i := l) l4
                  have v4 := rwg.frozen l
                  have l1 : (0 : Int) ≤ (l : Int) := by omega
                  have l2 : (l : Int) < 4 := by omega
                  have HB : Hid (-120000 ≤ freeAt p S i l ∧ freeAt p S i l ≤ 5000) := freeAt_bounds l HG.out (by omega) (fun j hj => (HA.out j hj).2.len)
                  have HN : Hid (In (S i).len 1 2000) := HF.out.len
                  have hwr : IntKind.i64.wrap (freeAt p S i l - (S i).len) = freeAt p S i l - (S i).len := by
                    have h1 := HB.out
                    have h2 := HN.out
                    unfold In at h2
                    rw [IntKind.wrap_i64]; omega
                  have HRG : Hid (g.val.heap[w.heap.size]? = some (.cells #[.int .i64 0, .int .i64 0, .int .i64 0, .int .i64 0] 204 (0, 0))) := blk_below hrx g.bel
                  have HBG : Hid (Below w.heap.size w g.val) := after hbx g.bel
                  have HRO : Hid (g.val.rowIs f 204 4 (fun j => .int .i64 (freeAt p S i j))) := rwg
                  clear hl rwg z0 z1 z2 z3 y0 y1 y2 y3 hrx hbx
                  generalize g.val = G at *
                  go_upto_region 14 with fail
                  have hrowF : Hid ((G.setCell ⟨f, l, none⟩ (.int .i64 (freeAt p S i l - (S i).len))).drew.rowIs f 204 4 (fun j => .int .i64 (freeAt p S (i + 1) j))) := by
                    refine (HRO.out.set l _).congr (fun j _ => ?_)
                    rw [← freeAt_step p S i l j hlm HLN.out]
                    split <;> rfl
                  have hrF : Hid ((G.setCell ⟨f, l, none⟩ (.int .i64 (freeAt p S i l - (S i).len))).drew.heap[w.heap.size]? = some (.cells #[.int .i64 0, .int .i64 0, .int .i64 0, .int .i64 0] 204 (0, 0))) := blk_drew (blk_set_other HRG.out _ _ (by omega))
                  have hbF : Hid (Below w.heap.size w (G.setCell ⟨f, l, none⟩ (.int .i64 (freeAt p S i l - (S i).len))).drew) := (HBG.out.setCell (by show w.heap.size ≤ f; omega) _).drew
                  have HAN : Hid (∀ j, j < i + 1 → ¬ Has (whoS S) j (S j).who ∧ Fits p (left p S j) (S j)) := fun j hj => by
                    by_cases e : j = i
                    · subst e; exact ⟨HH.out, fits_free.1 HF.out⟩
                    · exact HA.out j (by omega)
                  clear HH HF HA HLN HRG HBG HRO HB HN HRW
                  go_region
                  all_goals (go_wp2; go_roundw)
                  all_goals first | (exact ⟨i + 1, by omega, by go_num, HAN.out, hrowF.out, hrF.out, hbF.out⟩) | (simp [intOf]; omega)
                · have HF : Hid (¬ Fits p (freeAt p S i) (S i)) := hfit
                  clear hfit
                  refine wp_region_grow (by kernel_rfl) (by kernel_rfl) ?_
                  repeat (first | go_big_quiet_skip | (go_big_quiet_want; go_big_quiet_op; first | go_big_quiet_on | (apply Exists.intro; refine ⟨fun g => ?_, ?_⟩; (focus (first | (go_at_call 124; refine grown_call (v := .int .i64 (ixAns (whoS S) (S i).who i)) ((stayOf_any _ i c S (S i).who _ (by omega) ((HZ.out.upto (by omega)).below (after hbx g.bel))).mono ?_); rintro e w4 ⟨rfl, hbb⟩; exact ⟨rfl, hbb⟩) | (go_at_call 167; refine grown_call (v := .bool false) ((fitsOn_any _ _ mc p (freeAt p S i) (S i).who (S i).ln (S i).len (S i).hei _ HL.out hm4 (HX.out.below (after hbx g.bel))).mono ?_); rintro e w4 ⟨⟨bb, rfl, hi⟩, hbb⟩; obtain rfl := Bool.eq_false_iff.2 (fun e => HF.out (hi.1 e)); exact ⟨rfl, hbb⟩))); go_big_quiet_on)))
                  refine wpQuiet_nil ?_
                  rintro _ ⟨g, rfl⟩
                  have rg := blk_below hrx g.bel
                  have o0 := blk_cell rg 0 _ rfl
                  have o1 := blk_cell rg 1 _ rfl
                  have o2 := blk_cell rg 2 _ rfl
                  have o3 := blk_cell rg 3 _ rfl
                  have f0 := blk_free rg 0
                  have f1 := blk_free rg 1
                  have f2 := blk_free rg 2
                  have f3 := blk_free rg 3
                  go_wp2
                  have rF := four_set rg (.int .i64 0) (.int .i64 0) (.int .i64 0) (.int .i64 0)
                  have q0 := blk_cell rF 0 _ rfl
                  have q1 := blk_cell rF 1 _ rfl
                  have q2 := blk_cell rF 2 _ rfl
                  have q3 := blk_cell rF 3 _ rfl
                  exact bodyPost_ret (v := .tuple #[four (fun _ => 0), .bool false]) (by simp [results, Tryz.results144, go_sem, q0, q1, q2, q3, four]) rfl ⟨.inr ⟨fun h => HF.out (fits_free.2 (h.2.2 i hlt2).2), rfl⟩, four_below (after hbx g.bel) (Nat.le_refl _) _ _ _ _⟩
            · obtain rfl : i = n := by omega
              have o0 := blk_cell hr2 0 _ rfl
              have o1 := blk_cell hr2 1 _ rfl
              have o2 := blk_cell hr2 2 _ rfl
              have o3 := blk_cell hr2 3 _ rfl
              have f0 := blk_free hr2 0
              have f1 := blk_free hr2 1
              have f2 := blk_free hr2 2
              have f3 := blk_free hr2 3
              have c0 := hrow2.cell (i := 0) (by omega)
              have c1 := hrow2.cell (i := 1) (by omega)
              have c2 := hrow2.cell (i := 2) (by omega)
              have c3 := hrow2.cell (i := 3) (by omega)
              go_wp2
              have rF := four_set hr2 (.int .i64 (freeAt p S i 0)) (.int .i64 (freeAt p S i 1)) (.int .i64 (freeAt p S i 2)) (.int .i64 (freeAt p S i 3))
              have q0 := blk_cell rF 0 _ rfl
              have q1 := blk_cell rF 1 _ rfl
              have q2 := blk_cell rF 2 _ rfl
              have q3 := blk_cell rF 3 _ rfl
              exact bodyPost_ret (v := .tuple #[four (freeAt p S i), .bool true]) (by simp [results, Tryz.results144, go_sem, q0, q1, q2, q3, four]) rfl ⟨.inl ⟨⟨HG.out, h60, HA.out⟩, rfl⟩, four_below hbel2 (Nat.le_refl _) _ _ _ _⟩
    · have d0 : decide (60 < n) = true := by simp; omega
      have o0 := blk_cell r1 0 _ rfl
      have o1 := blk_cell r1 1 _ rfl
      have o2 := blk_cell r1 2 _ rfl
      have o3 := blk_cell r1 3 _ rfl
      have f0 := blk_free r1 0
      have f1 := blk_free r1 1
      have f2 := blk_free r1 2
      have f3 := blk_free r1 3
      go_wp2
      have rF := four_set r1 (.int .i64 0) (.int .i64 0) (.int .i64 0) (.int .i64 0)
      have q0 := blk_cell rF 0 _ rfl
      have q1 := blk_cell rF 1 _ rfl
      have q2 := blk_cell rF 2 _ rfl
      have q3 := blk_cell rF 3 _ rfl
      exact bodyPost_ret (v := .tuple #[four (fun _ => 0), .bool false]) (by simp [results, Tryz.results144, go_sem, q0, q1, q2, q3, four]) rfl ⟨.inr ⟨fun h => h60 h.2.1, rfl⟩, four_below bw1 (Nat.le_refl _) _ _ _ _⟩
end Go.Proofs.YtlelckbeoclhbaaGreat

namespace Go.Proofs.YtlelckbeoclhbaaGreat
open Go.RowKit
theorem implDeck_any (ao bo : Option Addr) (m mc n c : Nat) (p : Pairs) (S : Nat → Stay) (w : World) (hl : p.n = m) (hm : m ≤ 1048576) (hn : n ≤ 1048576) (hc : n ≤ c) (hx : PairsAt w ao p) (hz : StaysAt w bo n S) :
    Calls Tryz.prog 107 #[.slice ao m mc, .slice bo n c] w fun e w' => SaysIf (DeckI p n S) e ∧ Below w.heap.size w w' := by
  have HX : Hid (PairsAt w ao p) := hx
  have HZ : Hid (StaysAt w bo n S) := hz
  have HL : Hid (p.n = m) := hl
  clear hx hz hl
  go_enter Tryz.func107, Tryz.ntmps107
  go_wp2_with fail
  refine (freeOnDeck_any ao bo m mc n c p S _ HL.out hm hn hc HX.out HZ.out).mono ?_
  rintro e w1 ⟨hans, hb1⟩
  unfold FreeAns four at hans
  rcases hans with ⟨hd, rfl⟩ | ⟨hd, rfl⟩
  · have HD : Hid (DeckI p n S) := hd
    clear hd
    go_wp2
    go_ret
    exact ⟨says_yes HD.out, push hb1 _⟩
  · have HD : Hid (¬ DeckI p n S) := hd
    clear hd
    go_wp2
    go_ret
    exact ⟨says_no HD.out, push hb1 _⟩
end Go.Proofs.YtlelckbeoclhbaaGreat

namespace Go.Proofs.YtlelckbeoclhbaaGreat
open Go.RowKit
theorem roomInB_any (many cl be free : Int) (w : World) :
    Calls Tryz.prog 200 #[.agg #[.int .i64 many], .agg #[.int .i64 cl, .int .i64 be], .int .i64 free] w fun e w' => e = .returned (.tuple #[.agg #[.int .i64 0, .int .i64 0, .int .i64 many, .bool false], .bool (decide (In many 1 free))]) ∧ Below w.heap.size w w' := by
  go_enter Tryz.func200, Tryz.ntmps200
  go_upto_region 1 with fail
  go_region_with (first | (go_at_call 143; refine (within_is _ _ _ _).mono ?_; rintro e w' ⟨rfl, hw'⟩; have hw' := hw'.symm; subst hw'))
  all_goals
    have r3 : (((w.alloc (.cells #[.int .i64 many] 242)).alloc (.cells #[.int .i64 cl, .int .i64 be] 124)).alloc (.cells #[.int .i64 0, .int .i64 0, .int .i64 many, .bool false] 120)).drew.heap[w.heap.size + 1 + 1]? = some (.cells #[.int .i64 0, .int .i64 0, .int .i64 many, .bool false] 120 (0, 0)) := by
      have := heap_alloc_new ((w.alloc (.cells #[.int .i64 many] 242)).alloc (.cells #[.int .i64 cl, .int .i64 be] 124)) (.cells #[.int .i64 0, .int .i64 0, .int .i64 many, .bool false] 120)
      rw [World.size_alloc, World.size_alloc] at this
      exact blk_drew this
    have q0 := blk_cell r3 0 _ rfl
    have q1 := blk_cell r3 1 _ rfl
    have q2 := blk_cell r3 2 _ rfl
    have q3 := blk_cell r3 3 _ rfl
    have HB : Hid (Below w.heap.size w (((w.alloc (.cells #[.int .i64 many] 242)).alloc (.cells #[.int .i64 cl, .int .i64 be] 124)).alloc (.cells #[.int .i64 0, .int .i64 0, .int .i64 many, .bool false] 120)).drew) := (push (push (push (Below.refl _ _) _) _) _).drew
    clear r3
    generalize (((w.alloc (.cells #[.int .i64 many] 242)).alloc (.cells #[.int .i64 cl, .int .i64 be] 124)).alloc (.cells #[.int .i64 0, .int .i64 0, .int .i64 many, .bool false] 120)).drew = W at *
    go_wp2
    exact bodyPost_ret (v := .tuple #[.agg #[.int .i64 0, .int .i64 0, .int .i64 many, .bool false], .bool (decide (In many 1 free))]) (by simp [results, Tryz.results200, go_sem, q0, q1, q2, q3]) rfl ⟨rfl, HB.out⟩
theorem roomInW_any (least cl be free : Int) (w : World) :
    Calls Tryz.prog 199 #[.agg #[.int .i64 least], .agg #[.int .i64 cl, .int .i64 be], .int .i64 free] w fun e w' => e = .returned (.tuple #[.agg #[.int .i64 0, .int .i64 0, .int .i64 be, .bool true], .bool (decide (free = be ∧ least ≤ be))]) ∧ Below w.heap.size w w' := by
  by_cases h : free = be
  · have e1 : (free == be) = true := by simpa using h
    by_cases h2 : least ≤ be
    · have e2 : decide (least ≤ be) = true := decide_eq_true h2
      have HD : Hid (decide (free = be ∧ least ≤ be) = true) := decide_eq_true ⟨h, h2⟩
      clear h h2
      go_enter Tryz.func199, Tryz.ntmps199
      go_upto_region 1 with fail
      go_region
      all_goals
        have r3 : (((w.alloc (.cells #[.int .i64 least] 240)).alloc (.cells #[.int .i64 cl, .int .i64 be] 124)).alloc (.cells #[.int .i64 0, .int .i64 0, .int .i64 be, .bool true] 120)).drew.heap[w.heap.size + 1 + 1]? = some (.cells #[.int .i64 0, .int .i64 0, .int .i64 be, .bool true] 120 (0, 0)) := by
          have := heap_alloc_new ((w.alloc (.cells #[.int .i64 least] 240)).alloc (.cells #[.int .i64 cl, .int .i64 be] 124)) (.cells #[.int .i64 0, .int .i64 0, .int .i64 be, .bool true] 120)
          rw [World.size_alloc, World.size_alloc] at this
          exact blk_drew this
        have q0 := blk_cell r3 0 _ rfl
        have q1 := blk_cell r3 1 _ rfl
        have q2 := blk_cell r3 2 _ rfl
        have q3 := blk_cell r3 3 _ rfl
        have HB : Hid (Below w.heap.size w (((w.alloc (.cells #[.int .i64 least] 240)).alloc (.cells #[.int .i64 cl, .int .i64 be] 124)).alloc (.cells #[.int .i64 0, .int .i64 0, .int .i64 be, .bool true] 120)).drew) := (push (push (push (Below.refl _ _) _) _) _).drew
        clear r3
        generalize (((w.alloc (.cells #[.int .i64 least] 240)).alloc (.cells #[.int .i64 cl, .int .i64 be] 124)).alloc (.cells #[.int .i64 0, .int .i64 0, .int .i64 be, .bool true] 120)).drew = W at *
        go_wp2
        exact bodyPost_ret (v := .tuple #[.agg #[.int .i64 0, .int .i64 0, .int .i64 be, .bool true], .bool true]) (by simp [results, Tryz.results199, go_sem, q0, q1, q2, q3]) rfl ⟨by rw [HD.out], HB.out⟩
    · have e2 : decide (least ≤ be) = false := decide_eq_false h2
      have HD : Hid (decide (free = be ∧ least ≤ be) = false) := decide_eq_false (fun q => h2 q.2)
      clear h h2
      go_enter Tryz.func199, Tryz.ntmps199
      go_upto_region 1 with fail
      go_region
      all_goals
        have r3 : (((w.alloc (.cells #[.int .i64 least] 240)).alloc (.cells #[.int .i64 cl, .int .i64 be] 124)).alloc (.cells #[.int .i64 0, .int .i64 0, .int .i64 be, .bool true] 120)).drew.heap[w.heap.size + 1 + 1]? = some (.cells #[.int .i64 0, .int .i64 0, .int .i64 be, .bool true] 120 (0, 0)) := by
          have := heap_alloc_new ((w.alloc (.cells #[.int .i64 least] 240)).alloc (.cells #[.int .i64 cl, .int .i64 be] 124)) (.cells #[.int .i64 0, .int .i64 0, .int .i64 be, .bool true] 120)
          rw [World.size_alloc, World.size_alloc] at this
          exact blk_drew this
        have q0 := blk_cell r3 0 _ rfl
        have q1 := blk_cell r3 1 _ rfl
        have q2 := blk_cell r3 2 _ rfl
        have q3 := blk_cell r3 3 _ rfl
        have HB : Hid (Below w.heap.size w (((w.alloc (.cells #[.int .i64 least] 240)).alloc (.cells #[.int .i64 cl, .int .i64 be] 124)).alloc (.cells #[.int .i64 0, .int .i64 0, .int .i64 be, .bool true] 120)).drew) := (push (push (push (Below.refl _ _) _) _) _).drew
        clear r3
        generalize (((w.alloc (.cells #[.int .i64 least] 240)).alloc (.cells #[.int .i64 cl, .int .i64 be] 124)).alloc (.cells #[.int .i64 0, .int .i64 0, .int .i64 be, .bool true] 120)).drew = W at *
        go_wp2
        exact bodyPost_ret (v := .tuple #[.agg #[.int .i64 0, .int .i64 0, .int .i64 be, .bool true], .bool false]) (by simp [results, Tryz.results199, go_sem, q0, q1, q2, q3]) rfl ⟨by rw [HD.out], HB.out⟩
  · have e1 : (free == be) = false := by simpa using h
    have HD : Hid (decide (free = be ∧ least ≤ be) = false) := decide_eq_false (fun q => h q.1)
    clear h
    go_enter Tryz.func199, Tryz.ntmps199
    go_upto_region 1 with fail
    go_region
    all_goals
      have r3 : (((w.alloc (.cells #[.int .i64 least] 240)).alloc (.cells #[.int .i64 cl, .int .i64 be] 124)).alloc (.cells #[.int .i64 0, .int .i64 0, .int .i64 be, .bool true] 120)).drew.heap[w.heap.size + 1 + 1]? = some (.cells #[.int .i64 0, .int .i64 0, .int .i64 be, .bool true] 120 (0, 0)) := by
        have := heap_alloc_new ((w.alloc (.cells #[.int .i64 least] 240)).alloc (.cells #[.int .i64 cl, .int .i64 be] 124)) (.cells #[.int .i64 0, .int .i64 0, .int .i64 be, .bool true] 120)
        rw [World.size_alloc, World.size_alloc] at this
        exact blk_drew this
      have q0 := blk_cell r3 0 _ rfl
      have q1 := blk_cell r3 1 _ rfl
      have q2 := blk_cell r3 2 _ rfl
      have q3 := blk_cell r3 3 _ rfl
      have HB : Hid (Below w.heap.size w (((w.alloc (.cells #[.int .i64 least] 240)).alloc (.cells #[.int .i64 cl, .int .i64 be] 124)).alloc (.cells #[.int .i64 0, .int .i64 0, .int .i64 be, .bool true] 120)).drew) := (push (push (push (Below.refl _ _) _) _) _).drew
      clear r3
      generalize (((w.alloc (.cells #[.int .i64 least] 240)).alloc (.cells #[.int .i64 cl, .int .i64 be] 124)).alloc (.cells #[.int .i64 0, .int .i64 0, .int .i64 be, .bool true] 120)).drew = W at *
      go_wp2
      exact bodyPost_ret (v := .tuple #[.agg #[.int .i64 0, .int .i64 0, .int .i64 be, .bool true], .bool false]) (by simp [results, Tryz.results199, go_sem, q0, q1, q2, q3]) rfl ⟨by rw [HD.out], HB.out⟩
theorem nilB (many : Int) (w : World) : (nilAhead 362 242 (.agg #[.int .i64 many]) "loop.example/g00084/impl.roomIn").run Tryz.prog w = .ok (some false) w := by kernel_rfl
theorem nilW (least : Int) (w : World) : (nilAhead 362 240 (.agg #[.int .i64 least]) "loop.example/g00084/impl.roomIn").run Tryz.prog w = .ok (some false) w := by kernel_rfl
theorem methB (many : Int) (w : World) : (method 362 242 (.agg #[.int .i64 many]) "loop.example/g00084/impl.roomIn").run Tryz.prog w = .ok (200, .agg #[.int .i64 many]) w := by kernel_rfl
theorem methW (least : Int) (w : World) : (method 362 240 (.agg #[.int .i64 least]) "loop.example/g00084/impl.roomIn").run Tryz.prog w = .ok (199, .agg #[.int .i64 least]) w := by kernel_rfl
theorem wayOf_any (x c many : Int) (all : Bool) (w : World) :
    Calls Tryz.prog 178 #[.agg #[.int .i64 x, .int .i64 c, .int .i64 many, .bool all]] w fun e w' => e = .returned (if all then .iface 240 (.agg #[.int .i64 0]) else .iface 242 (.agg #[.int .i64 many])) ∧ Below w.heap.size w w' := by
  cases all with
  | false =>
    go_enter Tryz.func178, Tryz.ntmps178
    go_wp2
    go_ret
    exact ⟨rfl, push (Below.refl _ _) _⟩
  | true =>
    go_enter Tryz.func178, Tryz.ntmps178
    go_wp2
    go_ret
    exact ⟨rfl, push (Below.refl _ _) _⟩
end Go.Proofs.YtlelckbeoclhbaaGreat

namespace Go.Proofs.YtlelckbeoclhbaaGreat
open Go.RowKit
def Stands (p : Pairs) (F : Nat → Int) (r : Room) : Prop :=
  In r.cab 0 ((p.n : Int) - 1) ∧ (r.all = true → F r.cab.toNat = p.B r.cab.toNat ∧ r.many = p.B r.cab.toNat) ∧ (r.all = false → In r.many 1 (F r.cab.toNat))
def freeR (p : Pairs) (S : Nat → Room) (i k : Nat) : Int := if k < p.n then leftR p S i k else 0
theorem freeR_0 (p : Pairs) (S : Nat → Room) (k : Nat) : freeR p S 0 k = upto p.n p.B 0 k := by
  unfold freeR upto
  split
  · rw [leftR_0]
  · rfl
theorem freeR_lt {p : Pairs} {S : Nat → Room} {i k : Nat} (h : k < p.n) : freeR p S i k = leftR p S i k := if_pos h
theorem freeR_step (p : Pairs) (S : Nat → Room) (i l j : Nat) (hl : l < p.n) (h : (S i).cab = (l : Int)) : (if j = l then freeR p S i l - (S i).many else freeR p S i j) = freeR p S (i + 1) j := by
  by_cases e : j = l
  · subst e; rw [if_pos rfl, freeR_lt hl, freeR_lt hl, leftR_at p S i j h]
  · rw [if_neg e]
    unfold freeR
    split
    · rw [leftR_ne p S i j (by rw [h]; omega)]
    · rfl
theorem stands_free {p : Pairs} {S : Nat → Room} {i : Nat} {r : Room} : Stands p (freeR p S i) r ↔ Stands p (leftR p S i) r := by
  unfold Stands
  constructor
  · rintro ⟨h, h1, h2⟩
    have hl : r.cab.toNat < p.n := by unfold In at h; omega
    rw [freeR_lt hl] at h1 h2
    exact ⟨h, h1, h2⟩
  · rintro ⟨h, h1, h2⟩
    have hl : r.cab.toNat < p.n := by unfold In at h; omega
    rw [freeR_lt hl]
    exact ⟨h, h1, h2⟩
def RoomsI (p : Pairs) (n : Nat) (S : Nat → Room) : Prop :=
  GoodC p ∧ n ≤ 60 ∧ ∀ i, i < n → In (S i).who 1 9999 ∧ ¬ Has (whoR S) i (S i).who ∧ Stands p (leftR p S i) (S i)
theorem used_none {S : Nat → Room} {k i : Nat} (h : ∀ j, j < i → (S j).cab ≠ (k : Int)) : usedR S k i = 0 := by
  induction i with
  | zero => rfl
  | succ i ih => unfold usedR; rw [ih (fun j hj => h j (by omega)), if_neg (h i (by omega))]; rfl
theorem left_le (p : Pairs) (S : Nat → Room) (k i : Nat) (h : ∀ j, j < i → In (S j).many 1 4) : leftR p S i k ≤ p.B k := by
  have := leftR_mono p S k 0 i (Nat.zero_le _) h
  rw [leftR_0] at this
  exact this
theorem rooms_steps {p : Pairs} {n : Nat} {S : Nat → Room} (hg : GoodC p) (hs : ∀ i, i < n → Stands p (leftR p S i) (S i)) : ∀ i, i ≤ n → (∀ j, j < i → In (S j).many 1 4) ∧ ∀ k, k < p.n → 0 ≤ leftR p S i k := by
  intro i
  induction i with
  | zero =>
    intro _
    refine ⟨fun j hj => by omega, fun k hk => ?_⟩
    have := (hg.2 k hk).2
    unfold In at this
    rw [leftR_0]; omega
  | succ i ih =>
    intro hi
    obtain ⟨a, b⟩ := ih (by omega)
    obtain ⟨hc, h1, h2⟩ := hs i (by omega)
    obtain ⟨l, hl⟩ : ∃ l : Nat, (S i).cab = l := ⟨(S i).cab.toNat, by unfold In at hc; omega⟩
    have hlt : l < p.n := by unfold In at hc; omega
    have et : (S i).cab.toNat = l := by omega
    rw [et] at h1 h2
    have hB := (hg.2 l hlt).2
    have hle := left_le p S l i a
    have hstep := leftR_at p S i l hl
    have hm : In (S i).many 1 4 ∧ 0 ≤ leftR p S (i + 1) l := by
      cases hall : (S i).all with
      | true =>
        have := h1 hall
        unfold In at hB ⊢
        omega
      | false =>
        have := h2 hall
        unfold In at hB this ⊢
        omega
    refine ⟨fun j hj => ?_, fun k hk => ?_⟩
    · by_cases e : j = i
      · subst e; exact hm.1
      · exact a j (by omega)
    · by_cases e : k = l
      · subst e; exact hm.2
      · rw [leftR_ne p S i k (by rw [hl]; omega)]; exact b k hk
theorem roomsS_of_I {p : Pairs} {n : Nat} {S : Nat → Room} (h : RoomsI p n S) : RoomsS p n S := by
  obtain ⟨hg, hn, hall⟩ := h
  have st := rooms_steps hg (fun i hi => (hall i hi).2.2)
  refine ⟨hg, hn, fun i hi => ⟨⟨(hall i hi).1, (hall i hi).2.1, (hall i hi).2.2.1, (st n (Nat.le_refl _)).1 i hi, fun ha => ((hall i hi).2.2.2.1 ha).2⟩, fun j hj he => ?_⟩, fun k hk => (st n (Nat.le_refl _)).2 k hk⟩
  obtain ⟨hc, h1, h2⟩ := (hall i hi).2.2
  obtain ⟨_, k1, k2⟩ := (hall j (by omega)).2.2
  obtain ⟨l, hl⟩ : ∃ l : Nat, (S i).cab = l := ⟨(S i).cab.toNat, by unfold In at hc; omega⟩
  have et : (S i).cab.toNat = l := by omega
  have ej : (S j).cab = (l : Int) := he.trans hl
  have ejt : (S j).cab.toNat = l := by omega
  rw [et] at h1 h2
  rw [ejt] at k1 k2
  have hmj := (st n (Nat.le_refl _)).1 j (by omega)
  have hle := left_le p S l j (fun t ht => (st n (Nat.le_refl _)).1 t (by omega))
  have hstep := leftR_at p S j l ej
  have hmono := leftR_mono p S l (j + 1) i (by omega) (fun t ht => (st n (Nat.le_refl _)).1 t (by omega))
  unfold In at hmj
  have hi0 : (S i).all = false := by
    cases ha : (S i).all with
    | false => rfl
    | true => have := (h1 ha).1; omega
  refine ⟨?_, hi0⟩
  cases ha : (S j).all with
  | false => rfl
  | true =>
    have := k1 ha
    have h3 := h2 hi0
    unfold In at h3
    omega
theorem roomsI_of_S {p : Pairs} {n : Nat} {S : Nat → Room} (h : RoomsS p n S) : RoomsI p n S := by
  have hm := h.manys
  obtain ⟨hg, hn, hall, hleft⟩ := h
  refine ⟨hg, hn, fun i hi => ?_⟩
  obtain ⟨⟨h1, h2, hc, h4, h5⟩, h6⟩ := hall i hi
  refine ⟨h1, h2, hc, fun ha => ⟨?_, h5 ha⟩, fun _ => ⟨h4.1, ?_⟩⟩
  · have : usedR S (S i).cab.toNat i = 0 := used_none (fun j hj e => by
      have := (h6 j hj (by unfold In at hc; omega)).2
      rw [ha] at this; cases this)
    unfold leftR; rw [this]; omega
  · have hlt : (S i).cab.toNat < p.n := by unfold In at hc; omega
    have hstep := leftR_at p S i (S i).cab.toNat (by unfold In at hc; omega)
    have hmono := leftR_mono p S (S i).cab.toNat (i + 1) n (by omega) hm
    have := hleft _ hlt
    omega
theorem rooms_iff {p : Pairs} {n : Nat} {S : Nat → Room} : RoomsI p n S ↔ RoomsS p n S := ⟨roomsS_of_I, roomsI_of_S⟩
theorem rooms_few {p : Pairs} {n : Nat} {S : Nat → Room} (h : RoomsS p n S) : n ≤ 24 := by
  have hm := h.manys
  obtain ⟨hg, hn, hall, hleft⟩ := h
  have hcab : ∀ i, i < n → ∃ l : Nat, (S i).cab = l ∧ l < p.n := fun i hi => by
    have hc := (hall i hi).1.2.2.1
    exact ⟨(S i).cab.toNat, by unfold In at hc; omega, by unfold In at hc; omega⟩
  have hp := hg.1
  have hsum : ∀ i, i ≤ n → (i : Int) ≤ usedR S 0 i + usedR S 1 i + usedR S 2 i + usedR S 3 i + usedR S 4 i + usedR S 5 i := by
    intro i
    induction i with
    | zero => intro _; simp [usedR]
    | succ i ih =>
      intro hi
      have := ih (by omega)
      obtain ⟨l, hl, hlt⟩ := hcab i (by omega)
      have h1 := (hm i (by omega)).1
      have hl6 : l = 0 ∨ l = 1 ∨ l = 2 ∨ l = 3 ∨ l = 4 ∨ l = 5 := by omega
      unfold usedR
      rw [hl]
      rcases hl6 with rfl | rfl | rfl | rfl | rfl | rfl <;> simp <;> omega
  have hu : ∀ k, usedR S k n ≤ 4 := fun k => by
    by_cases hk : k < p.n
    · have h1 := hleft k hk
      have h2 := (hg.2 k hk).2
      unfold In at h2
      unfold leftR at h1
      omega
    · rw [used_none (fun j hj e => by obtain ⟨l, hl, hlt⟩ := hcab j hj; rw [hl] at e; omega)]; omega
  have := hsum n (Nat.le_refl _)
  have := hu 0
  have := hu 1
  have := hu 2
  have := hu 3
  have := hu 4
  have := hu 5
  omega
end Go.Proofs.YtlelckbeoclhbaaGreat
