/-
  OWN TEXT: the contract of the specification's l2Leave.
-/
import Derived.Test.YtompknfmlnlnfaaKitSp
import Derived.Test.YtompknfmlnlnfaaKitG
import Derived.Test.YtompknfmlnlnfaaSpecHo
import Derived.Test.YtompknfmlnlnfaaPutI
import Derived.Test.YtompknfmlnlnfaaLetI
import Derived.Deep.LoopGhost
import Derived.Deep.RegionLawGrows
import Derived.Deep.AppendLies
namespace Go.Proofs.Ytompknfmlnlnfaa
open Go.RowKit

theorem own_box {w : World} {base e size n B t : Nat} {v : Value} {xs : List Value} {cs : Array Value} {fr : Nat × Nat} (h : w.ownsRow base e size v n xs) (hb : w.heap[B]? = some (.cells cs t fr)) (hne : t ≠ e) : v.ownBlock ≠ some B := by
  intro he
  rcases h.2 with ⟨rfl, _⟩ | ⟨g, c, r, rfl, _, k1, _⟩
  · simp [Value.ownBlock] at he
  · simp only [Value.ownBlock, Option.some.injEq] at he
    subst he
    rw [k1] at hb
    simp at hb
    exact hne hb.2.1.symm
/-- Where the inner loop stands. -/
structure SpInv (wr : World) (base B : Nat) (key : Int) (l1 l2 hs qs : List (Int × Bool)) (es0 es ks : List Int) (vh vq v7 : Value) (wi : World) : Prop where
  eq : letP l1 l2 = ((letP hs qs).1, (letP hs qs).2.1, es ++ (letP hs qs).2.2)
  len : hs.length + qs.length = l1.length + l2.length
  held : LineV wi base vh (lineOf hs)
  queue : LineV wi base vq (lineOf qs)
  ents : WaitsIs wi base v7 ks
  got : Strict ks ∧ ∀ y, y ∈ ks ↔ y ∈ es0 ++ es
  box : wi.heap[B]? = some (.cells #[.int .i64 key, vh, vq] 68 (0, 0))
  bel : Below wr.heap.size wr wi

set_option maxHeartbeats 6400000 in
set_option maxRecDepth 100000 in
theorem l2Leave_any (ao : Option Addr) (N c : Nat) (K : Nat → Int) (H Q : Nat → Line) (x : Int) (w : World) (hg : GoodL N K H Q) (hs : ShortTo N H Q 1048576) (hz : LocksAt w ao N K H Q) :
    Calls Try.prog 53 #[.slice ao N c, .int .i64 x] w fun e w' => (∃ v1 v2 ks, e = .returned (.tuple #[v1, v2]) ∧ LocksSL w' w.heap.size v1 (leaveTo K H Q x N) ∧ WaitsIs w' w.heap.size v2 ks ∧ Hid (Strict ks ∧ ∀ y, y ∈ ks ↔ y ∈ entTo H Q x N)) ∧ Below w.heap.size w w' := by
  obtain ⟨p0, pi, pz0, pz1, pz2⟩ := info_parts Try.infoAsked
  obtain ⟨j0, ji, jz0, jz1, jz2⟩ := info_parts Try.infoLock
  have HS : Hid (ShortTo N H Q 1048576) := hs
  have HZ : Hid (LocksAt w ao N K H Q) := hz
  have HGL : Hid (GoodL N K H Q) := hg
  have hN := hg.1
  clear hs hz hg
  go_enter Try.func53, Try.ntmps53
  go_wp2
  go_loopg [6, 7, 12] N (fun g v6 v7 i wr => ∃ (k : Nat) (hv qv : Nat → Value) (ks : List Int), k ≤ N ∧ g = N - k ∧ i = .int .i64 k ∧ LocksSp wr w.heap.size (leaveTo K H Q x k).length v6 (keyF (leaveTo K H Q x k)) (heldF (leaveTo K H Q x k)) (queueF (leaveTo K H Q x k)) hv qv ∧ WaitsIs wr w.heap.size v7 ks ∧ (Strict ks ∧ ∀ y, y ∈ ks ↔ y ∈ entTo H Q x k) ∧ Below w.heap.size w wr)
  case atStart => exact ⟨0, fun _ => .slice none 0 0, fun _ => .slice none 0 0, [], Nat.zero_le _, rfl, rfl, LocksSp.nil _ _ _ _ _ _ _, WaitsIs.nil _ _, ⟨List.Pairwise.nil, fun y => Iff.rfl⟩, Below.refl _ _⟩
  case round =>
    obtain ⟨wo, hwo⟩ : ∃ wo, wo = wr := ⟨_, rfl⟩
    subst hwo
    obtain ⟨k, hv, qv, ks0, hk, rfl, rfl, hL, hE, hKS, hbel⟩ := hrel
    obtain ⟨av, cv, rfl, _⟩ := own_form hL.row
    obtain ⟨ae, ce, rfl, _⟩ := own_form hE
    have HLN := leaveTo_length K H Q x k
    generalize hls : leaveTo K H Q x k = ls at *
    have HLS : Hid (leaveTo K H Q x k = ls) := hls
    have HKS0 : Hid (Strict ks0 ∧ ∀ y, y ∈ ks0 ↔ y ∈ entTo H Q x k) := hKS
    clear hls hKS
    by_cases hlt : k < N
    · obtain ⟨b, off, ha, hc, qa, qc, rfl, h0, h1, h2, h3, h4, h5, h6⟩ := HZ.out k hlt
      have hb := World.block_lt_of_cell? w _ h0
      have d0 := (hbel.cell (p := ⟨b, off + k * 3, none⟩) hb).trans h0
      have d1 := (hbel.cell (p := ⟨b, off + k * 3 + 1, none⟩) hb).trans h1
      have d2 := (hbel.cell (p := ⟨b, off + k * 3 + 2, none⟩) hb).trans h2
      have s1 := (HS.out k hlt).1
      have s2 := (HS.out k hlt).2
      have HH : Hid (LineAt w ha (H k)) := h3
      have HQ : Hid (LineAt w qa (Q k)) := h4
      have HL : Hid (LocksSp wo w.heap.size ls.length (.slice av ls.length cv) (keyF ls) (heldF ls) (queueF ls) hv qv) := hL
      have HE : Hid (WaitsIs wo w.heap.size (.slice ae ks0.length ce) ks0) := hE
      have HB : Hid (Below w.heap.size w wo) := hbel
      clear h0 h1 h2 h3 h4 h5 h6 hL hE
      have hp : Below wo.heap.size wo (wo.alloc (.cells #[.int .i64 (K k), .slice ha (H k).n hc, .slice qa (Q k).n qc] 68)) := push (Below.refl _ _) _
      have bX := heap_alloc_new wo (.cells #[.int .i64 (K k), .slice ha (H k).n hc, .slice qa (Q k).n qc] 68)
      go_upto_region 6 with fail
      generalize wo.alloc (.cells #[.int .i64 (K k), .slice ha (H k).n hc, .slice qa (Q k).n qc] 68) = X at hp bX ⊢
      obtain ⟨l1, hl1⟩ : ∃ l1, l1 = lessTo (H k) x (H k).n := ⟨_, rfl⟩
      obtain ⟨l2, hl2⟩ : ∃ l2, l2 = lessTo (Q k) x (Q k).n := ⟨_, rfl⟩
      have HLT : Hid (leftOf H Q x k = letP l1 l2) := by show leftOf H Q x k = letP l1 l2; rw [hl1, hl2]; rfl
      have hll : l1.length + l2.length ≤ 12 := by
        have h1 := good_lines ((goodL_iff N K H Q).1 HGL.out) hlt
        have h2 := lessTo_length (H k) x (H k).n
        have h3 := lessTo_length (Q k) x (Q k).n
        rw [hl1, hl2]
        omega
      have HL1 : Hid (l1 = lessTo (H k) x (H k).n) := hl1
      have HL2 : Hid (l2 = lessTo (Q k) x (Q k).n) := hl2
      clear hl1 hl2
      have HB1 : Hid (X.heap[wo.heap.size]? = _) := bX
      have HX1 : Hid (Below wo.heap.size wo X) := hp
      have x0 := blk_cell bX 0 _ rfl
      have x1 := blk_cell bX 1 _ rfl
      have x2 := blk_cell bX 2 _ rfl
      clear d0 d1 d2 bX hp hbel
      go_wp2_with fail
      refine (l2Without_any ha (H k).n hc (H k) x X rfl s1 (HH.out.below (after HB.out HX1.out))).mono ?_
      rintro e w4 ⟨⟨v4, rfl, ho4⟩, hb4⟩
      rw [← HL1.out] at ho4
      obtain ⟨a4, c4, rfl, _⟩ := own_form ho4
      have z4 := blk_below HB1.out hb4
      have k4 := (Kept.refl w4 (fun b => b = wo.heap.size)).set (a := ⟨wo.heap.size, 1, none⟩) rfl (.slice a4 l1.length c4)
      have b4 := heap_setCell_same _ _ 1 _ _ (.slice a4 l1.length c4) z4
      have y1 := blk_cell z4 1 _ rfl
      have y2 := blk_cell z4 2 _ rfl
      have f1 := blk_free z4 1
      clear x0 x1 x2
      go_upto_region 7 with fail
      generalize w4.setCell ⟨wo.heap.size, 1, none⟩ (.slice a4 l1.length c4) = X2 at k4 b4 ⊢
      have o4 : AsksIs X2 (wo.heap.size + 1) (.slice a4 l1.length c4) l1 := own_base (k4.own ho4 (fun g e1 e2 => by have := (World.ownsRow.lt ho4 g e1).1; have := blk_lt HB1.out; omega)) (blk_lt HB1.out)
      have h2X : Below wo.heap.size wo X2 := Kept.below (after HX1.out hb4) (Nat.le_trans HX1.out.size hb4.size) k4 (fun b e => by have e : b = wo.heap.size := e; omega)
      have HX2 : Hid (Below wo.heap.size wo X2) := h2X
      have HB2 : Hid (X2.heap[wo.heap.size]? = some (.cells #[.int .i64 (K k), .slice a4 l1.length c4, .slice qa (Q k).n qc] 68 (0, 0))) := b4
      have HO4 : Hid (AsksIs X2 (wo.heap.size + 1) (.slice a4 l1.length c4) l1) := o4
      have t0 := blk_cell HB2.out 0 _ rfl
      have t1 := blk_cell HB2.out 1 _ rfl
      have t2 := blk_cell HB2.out 2 _ rfl
      clear k4 b4 y1 y2 f1 o4 h2X ho4 hb4 z4
      go_wp2_with fail
      refine (l2Without_any qa (Q k).n qc (Q k) x X2 rfl s2 (HQ.out.below (after HB.out HX2.out))).mono ?_
      rintro e w5 ⟨⟨v5, rfl, ho5⟩, hb5⟩
      rw [← HL2.out] at ho5
      obtain ⟨a5, c5, rfl, _⟩ := own_form ho5
      have z5 := blk_below HB2.out hb5
      have k5 := (Kept.refl w5 (fun b => b = wo.heap.size)).set (a := ⟨wo.heap.size, 2, none⟩) rfl (.slice a5 l2.length c5)
      have b5 := heap_setCell_same _ _ 2 _ _ (.slice a5 l2.length c5) z5
      have y1 := blk_cell z5 1 _ rfl
      have y2 := blk_cell z5 2 _ rfl
      have f1 := blk_free z5 2
      clear t0 t1 t2
      go_wp2
      generalize w5.setCell ⟨wo.heap.size, 2, none⟩ (.slice a5 l2.length c5) = X3 at k5 b5 ⊢
      have hs5 : wo.heap.size + 1 ≤ X2.heap.size := blk_lt HB2.out
      have o4 : AsksIs X3 (wo.heap.size + 1) (.slice a4 l1.length c4) l1 := k5.own (AsksIs.below HO4.out hb5) (fun g e1 e2 => by have := (World.ownsRow.lt HO4.out g e1).1; omega)
      have o5 : AsksIs X3 (wo.heap.size + 1) (.slice a5 l2.length c5) l2 := own_base (k5.own ho5 (fun g e1 e2 => by have := (World.ownsRow.lt ho5 g e1).1; omega)) hs5
      have h3X : Below wo.heap.size wo X3 := Kept.below (after HX2.out hb5) (Nat.le_trans HX2.out.size hb5.size) k5 (fun b e => by have e : b = wo.heap.size := e; omega)
      have hwr : w.heap.size ≤ wo.heap.size + 1 := Nat.le_succ_of_le HB.out.size
      have HI0 : Hid (SpInv wo w.heap.size wo.heap.size (K k) l1 l2 l1 l2 (entTo H Q x k) [] ks0 (.slice a4 l1.length c4) (.slice a5 l2.length c5) (.slice ae ks0.length ce) X3) :=
        ⟨rfl, rfl, LineV.of_own rfl (by rw [askList_lineOf]; exact own_base o4 hwr), LineV.of_own rfl (by rw [askList_lineOf]; exact own_base o5 hwr), own_below h3X HE.out, ⟨HKS0.out.1, by rw [List.append_nil]; exact HKS0.out.2⟩, b5, h3X⟩
      clear k5 b5 y1 y2 f1 o4 o5 h3X ho5 hb5 z5 hs5
      go_loopg [7] l2.length (fun g v7 wi => ∃ hs qs es ks vh vq, g = qs.length ∧ SpInv wo w.heap.size wo.heap.size (K k) l1 l2 hs qs (entTo H Q x k) es ks vh vq v7 wi)
      case atStart => exact ⟨l1, l2, [], ks0, _, _, rfl, HI0.out⟩
      case round =>
        clear HI0
        obtain ⟨wi, hwi⟩ : ∃ wi, wi = wr := ⟨_, rfl⟩
        subst hwi
        obtain ⟨hs, qs, es, ks, vh, vq, rfl, hI⟩ := hrel
        obtain ⟨ah, ch, eh, sh, lh⟩ := hI.held.at_
        have eh : vh = .slice ah hs.length ch := eh
        subst eh
        obtain ⟨aq, cq, eq, sq, lq⟩ := hI.queue.at_
        have eq : vq = .slice aq qs.length cq := eq
        subst eq
        obtain ⟨ag, cg, rfl, _⟩ := own_form hI.ents
        have I : Hid (SpInv wo w.heap.size wo.heap.size (K k) l1 l2 hs qs (entTo H Q x k) es ks (.slice ah hs.length ch) (.slice aq qs.length cq) (.slice ag ks.length cg) wi) := hI
        have HLH : Hid (LineAt wi ah (lineOf hs)) := lh
        have HSH : Hid (SliceOk ah hs.length ch) := sh
        have box := hI.box
        have lB := blk_lt box
        have k1 := blk_cell box 1 _ rfl
        have k2 := blk_cell box 2 _ rfl
        have r1 : ∀ g : Grown wi, g.val.cell? ⟨wo.heap.size, 1, none⟩ = some (.slice ah hs.length ch) := fun g => (g.bel.cell (p := ⟨wo.heap.size, 1, none⟩) lB).trans k1
        have r0 : ∀ g : Grown wi, g.val.cell? ⟨wo.heap.size, 2, none⟩ = some (.slice aq qs.length cq) := fun g => (g.bel.cell (p := ⟨wo.heap.size, 2, none⟩) lB).trans k2
        clear hI lh k1 k2 sh box
        cases qs with
        | nil =>
          have d0 : decide ((0 : Int) < ((([] : List (Int × Bool)).length : Nat) : Int)) = false := rfl
          clear lq sq
          simp only [List.length_nil] at *
          go_upto_region 8 with fail
          refine wp_region_grow (by kernel_rfl) (by kernel_rfl) ?_
          repeat (first | go_big_quiet_skip | (go_big_quiet_want; go_big_quiet_op; go_big_quiet_on))
          refine wpQuiet_nil ?_
          rintro _ ⟨g, rfl⟩
          clear r1
          have hX : Below wi.heap.size wi g.val := g.bel
          have HX : Hid (Below wi.heap.size wi g.val) := hX
          have bX := blk_below I.out.box hX
          clear hX r0
          generalize g.val = Y at bX HX ⊢
          have HBY : Hid (Below wo.heap.size wo Y) := after I.out.bel HX.out
          have z0 := blk_cell bX 0 _ rfl
          have z1 := blk_cell bX 1 _ rfl
          have z2 := blk_cell bX 2 _ rfl
          have HLF : Hid (leftOf H Q x k = (hs, [], es)) := by
            show leftOf H Q x k = (hs, [], es)
            rw [HLT.out, I.out.eq, show letP hs [] = (hs, [], []) from rfl, List.append_nil]
          have HEN2 : Hid (entTo H Q x (k + 1) = entTo H Q x k ++ es) := by show entTo H Q x k ++ (leftOf H Q x k).2.2 = entTo H Q x k ++ es; rw [HLF.out]
          have HW7 : Hid (WaitsIs Y w.heap.size (.slice ag ks.length cg) ks) := own_below HX.out I.out.ents
          have HLY : Hid (LocksSp Y w.heap.size ls.length (.slice av ls.length cv) (keyF ls) (heldF ls) (queueF ls) hv qv) := HL.out.below HBY.out
          have HV1 : Hid (LineV Y w.heap.size (.slice ah hs.length ch) (lineOf hs)) := I.out.held.below HX.out
          have HV2 : Hid (LineV Y w.heap.size (.slice aq 0 cq) (lineOf [])) := I.out.queue.below HX.out
          have HBW : Hid (Below w.heap.size w Y) := after HB.out HBY.out
          have HKS : Hid (Strict ks ∧ ∀ y, y ∈ ks ↔ y ∈ entTo H Q x k ++ es) := I.out.got
          clear bX
          by_cases hm : hs.length = 0
          · have dm : decide ((0 : Int) < (hs.length : Int)) = false := by rw [hm]; rfl
            have HLV : Hid (leaveTo K H Q x (k + 1) = ls) := by
              show leaveTo K H Q x (k + 1) = ls
              rw [leaveTo_no (by rw [HLF.out]; exact hm)]
              exact HLS.out
            go_wp2
            go_roundg (N - (k + 1))
            case measure => omega
            case rel => exact ⟨k + 1, hv, qv, ks, by omega, rfl, by go_num, by rw [HLV.out]; exact HLY.out, HW7.out, ⟨HKS.out.1, by rw [HEN2.out]; exact HKS.out.2⟩, HBW.out⟩
          · have dm : decide ((0 : Int) < (hs.length : Int)) = true := by simp; omega
            have HLV : Hid (leaveTo K H Q x (k + 1) = ls ++ [(K k, hs, [])]) := by
              show leaveTo K H Q x (k + 1) = ls ++ [(K k, hs, [])]
              rw [leaveTo_yes (by rw [HLF.out]; exact hm), HLS.out, HLF.out]
            have hwY : w.heap.size ≤ Y.heap.size := HBW.out.size
            have HLA : Hid (LocksSp (Y.alloc (.cells #[.int .i64 (K k), .slice ah hs.length ch, .slice aq 0 cq] 68)) w.heap.size ls.length (.slice av ls.length cv) (keyF ls) (heldF ls) (queueF ls) hv qv) := HLY.out.below (push (Below.refl _ _) _)
            go_wp2_with (first | (at_builtin; refine wpList_append_lies _ (by rfl) (.tmp 64) (.tmp 66) 23 (by rfl) w.heap.size 68 j0 (.agg #[.int .i64 0, .slice none 0 0, .slice none 0 0]) 3 56 Try.underlying23 ji jz0 jz1 jz2 rfl (by decide) (.slice av ls.length cv) ls.length _ (by rfl) HLA.out.row ⟨Y.heap.size, 0, none⟩ 1 1 [.int .i64 (K k), .slice ah hs.length ch, .slice aq 0 cq] (by rfl) (by rfl) (World.news_of_block (cs := #[.int .i64 (K k), .slice ah hs.length ch, .slice aq 0 cq]) (t := 68) (fr := (0, 0)) (heap_alloc_new Y _)) (by intro u hu; simp at hu; rcases hu with rfl | rfl | rfl <;> rfl) (by decide) (by unfold maxLen; omega) (by omega) (by simp; omega) (Y.heap.size + 1) (by simp) ?_; intro g6 cap6 w10 ho10 hg10 hat10 hlt10))
            go_roundg (N - (k + 1))
            case measure => omega
            case rel =>
              have hS := HLA.out.snocL (h := hs) (q := []) (HV1.out.below (push (Below.refl _ _) _)) (HV2.out.below (push (Below.refl _ _) _)) hg10 ho10
              refine ⟨k + 1, _, _, ks, by omega, rfl, by go_num, by rw [HLV.out]; exact hS, ?_, ⟨HKS.out.1, by rw [HEN2.out]; exact HKS.out.2⟩, ?_⟩
              · exact (kept_by hg10).own (own_below (push (Below.refl _ _) _) HW7.out) (fun g e1 e2 => own_apart HLA.out.row (own_below (push (Below.refl _ _) _) HW7.out) (by decide) g e2 e1)
              · exact (push HBW.out _).grown hg10 (by simp; omega) (fun j hj => (HLA.out.row.lt j hj).1)
        | cons a qs =>
          obtain ⟨b, off, rfl, c0, c1⟩ := lq 0 (by simp [lineOf])
          have c0 : wi.cell? ⟨b, off, none⟩ = some (.int .i64 a.1) := c0
          have c1 : wi.cell? ⟨b, off + 1, none⟩ = some (.bool a.2) := c1
          have hbw := World.block_lt_of_cell? wi _ c0
          have HLQ : Hid (LineAt wi (some ⟨b, off, none⟩) (lineOf (a :: qs))) := lq
          have HSQ : Hid (SliceOk (some ⟨b, off, none⟩) (qs.length + 1) cq) := sq
          have i0 : decide ((0 : Int) < (((a :: qs).length : Nat) : Int)) = true := by simp
          have i1 : (0 : Int) < (((a :: qs).length : Nat) : Int) := by simp
          have r2 : ∀ g : Grown wi, g.val.cell? ⟨b, off, none⟩ = some (.int .i64 a.1) := fun g => (g.bel.cell (p := ⟨b, off, none⟩) hbw).trans c0
          have r3 : ∀ g : Grown wi, g.val.cell? ⟨b, off + 1, none⟩ = some (.bool a.2) := fun g => (g.bel.cell (p := ⟨b, off + 1, none⟩) hbw).trans c1
          clear lq sq c0 c1
          go_upto_region 8 with fail
          cases hm : mayP hs a.2 with
          | false =>
            have HM : Hid (mayB (lineOf hs) a.2 = false) := (mayB_lineOf hs a.2).trans hm
            have HP : Hid (letP hs (a :: qs) = (hs, a :: qs, [])) := letP_no hm
            clear hm
            refine wp_region_grow (by kernel_rfl) (by kernel_rfl) ?_
            repeat (first | go_big_quiet_skip | (go_big_quiet_want; go_big_quiet_op; first | go_big_quiet_on | (apply Exists.intro; refine ⟨fun g => ?_, ?_⟩; (focus (go_at_call 42; refine grown_call (v := .bool false) ((l2May_any _ _ _ (lineOf hs) _ _ _ rfl (HLH.out.below g.bel)).mono ?_); rintro e w4 ⟨rfl, hbb⟩; exact ⟨by rw [HM.out], hbb⟩)); go_big_quiet_on)))
            refine wpQuiet_nil ?_
            rintro _ ⟨g, rfl⟩
            clear r1 r2 r3
            have hX : Below wi.heap.size wi g.val := g.bel
            have HX : Hid (Below wi.heap.size wi g.val) := hX
            have bX := blk_below I.out.box hX
            clear hX r0
            generalize g.val = Y at bX HX ⊢
            have HBY : Hid (Below wo.heap.size wo Y) := after I.out.bel HX.out
            have z0 := blk_cell bX 0 _ rfl
            have z1 := blk_cell bX 1 _ rfl
            have z2 := blk_cell bX 2 _ rfl
            have HLF : Hid (leftOf H Q x k = (hs, (a :: qs), es)) := by
              show leftOf H Q x k = (hs, (a :: qs), es)
              rw [HLT.out, I.out.eq, HP.out, List.append_nil]
            have HEN2 : Hid (entTo H Q x (k + 1) = entTo H Q x k ++ es) := by show entTo H Q x k ++ (leftOf H Q x k).2.2 = entTo H Q x k ++ es; rw [HLF.out]
            have HW7 : Hid (WaitsIs Y w.heap.size (.slice ag ks.length cg) ks) := own_below HX.out I.out.ents
            have HLY : Hid (LocksSp Y w.heap.size ls.length (.slice av ls.length cv) (keyF ls) (heldF ls) (queueF ls) hv qv) := HL.out.below HBY.out
            have HV1 : Hid (LineV Y w.heap.size (.slice ah hs.length ch) (lineOf hs)) := I.out.held.below HX.out
            have HV2 : Hid (LineV Y w.heap.size (.slice (some ⟨b, off, none⟩) (qs.length + 1) cq) (lineOf (a :: qs))) := I.out.queue.below HX.out
            have HBW : Hid (Below w.heap.size w Y) := after HB.out HBY.out
            have HKS : Hid (Strict ks ∧ ∀ y, y ∈ ks ↔ y ∈ entTo H Q x k ++ es) := I.out.got
            clear bX
            by_cases hm : hs.length = 0
            · have dm : decide ((0 : Int) < (hs.length : Int)) = false := by rw [hm]; rfl
              have HLV : Hid (leaveTo K H Q x (k + 1) = ls) := by
                show leaveTo K H Q x (k + 1) = ls
                rw [leaveTo_no (by rw [HLF.out]; exact hm)]
                exact HLS.out
              go_wp2
              go_roundg (N - (k + 1))
              case measure => omega
              case rel => exact ⟨k + 1, hv, qv, ks, by omega, rfl, by go_num, by rw [HLV.out]; exact HLY.out, HW7.out, ⟨HKS.out.1, by rw [HEN2.out]; exact HKS.out.2⟩, HBW.out⟩
            · have dm : decide ((0 : Int) < (hs.length : Int)) = true := by simp; omega
              have HLV : Hid (leaveTo K H Q x (k + 1) = ls ++ [(K k, hs, (a :: qs))]) := by
                show leaveTo K H Q x (k + 1) = ls ++ [(K k, hs, (a :: qs))]
                rw [leaveTo_yes (by rw [HLF.out]; exact hm), HLS.out, HLF.out]
              have hwY : w.heap.size ≤ Y.heap.size := HBW.out.size
              have HLA : Hid (LocksSp (Y.alloc (.cells #[.int .i64 (K k), .slice ah hs.length ch, .slice (some ⟨b, off, none⟩) (qs.length + 1) cq] 68)) w.heap.size ls.length (.slice av ls.length cv) (keyF ls) (heldF ls) (queueF ls) hv qv) := HLY.out.below (push (Below.refl _ _) _)
              go_wp2_with (first | (at_builtin; refine wpList_append_lies _ (by rfl) (.tmp 64) (.tmp 66) 23 (by rfl) w.heap.size 68 j0 (.agg #[.int .i64 0, .slice none 0 0, .slice none 0 0]) 3 56 Try.underlying23 ji jz0 jz1 jz2 rfl (by decide) (.slice av ls.length cv) ls.length _ (by rfl) HLA.out.row ⟨Y.heap.size, 0, none⟩ 1 1 [.int .i64 (K k), .slice ah hs.length ch, .slice (some ⟨b, off, none⟩) (qs.length + 1) cq] (by rfl) (by rfl) (World.news_of_block (cs := #[.int .i64 (K k), .slice ah hs.length ch, .slice (some ⟨b, off, none⟩) (qs.length + 1) cq]) (t := 68) (fr := (0, 0)) (heap_alloc_new Y _)) (by intro u hu; simp at hu; rcases hu with rfl | rfl | rfl <;> rfl) (by decide) (by unfold maxLen; omega) (by omega) (by simp; omega) (Y.heap.size + 1) (by simp) ?_; intro g6 cap6 w10 ho10 hg10 hat10 hlt10))
              go_roundg (N - (k + 1))
              case measure => omega
              case rel =>
                have hS := HLA.out.snocL (h := hs) (q := (a :: qs)) (HV1.out.below (push (Below.refl _ _) _)) (HV2.out.below (push (Below.refl _ _) _)) hg10 ho10
                refine ⟨k + 1, _, _, ks, by omega, rfl, by go_num, by rw [HLV.out]; exact hS, ?_, ⟨HKS.out.1, by rw [HEN2.out]; exact HKS.out.2⟩, ?_⟩
                · exact (kept_by hg10).own (own_below (push (Below.refl _ _) _) HW7.out) (fun g e1 e2 => own_apart HLA.out.row (own_below (push (Below.refl _ _) _) HW7.out) (by decide) g e2 e1)
                · exact (push HBW.out _).grown hg10 (by simp; omega) (fun j hj => (HLA.out.row.lt j hj).1)
          | true =>
            have HM : Hid (mayB (lineOf hs) a.2 = true) := (mayB_lineOf hs a.2).trans hm
            have HP : Hid (letP hs (a :: qs) = ((letP (insP hs a) qs).1, (letP (insP hs a) qs).2.1, a.1 :: (letP (insP hs a) qs).2.2)) := letP_yes hm
            clear hm
            refine wp_region_grow (by kernel_rfl) (by kernel_rfl) ?_
            repeat (first | go_big_quiet_skip | (go_big_quiet_want; go_big_quiet_op; first | go_big_quiet_on | (apply Exists.intro; refine ⟨fun g => ?_, ?_⟩; (focus (go_at_call 42; refine grown_call (v := .bool true) ((l2May_any _ _ _ (lineOf hs) _ _ _ rfl (HLH.out.below g.bel)).mono ?_); rintro e w4 ⟨rfl, hbb⟩; exact ⟨by rw [HM.out], hbb⟩)); go_big_quiet_on)))
            refine wpQuiet_nil ?_
            rintro _ ⟨g, rfl⟩
            have hX : Below wi.heap.size wi g.val := g.bel
            have bX := blk_below I.out.box hX
            have q0 := r2 g
            have q1 := r3 g
            have HX : Hid (Below wi.heap.size wi g.val) := hX
            clear r0 r1 r2 r3 hX
            generalize g.val = X at bX HX q0 q1 ⊢
            have HBX : Hid (X.heap[wo.heap.size]? = some (.cells #[.int .i64 (K k), .slice ah hs.length ch, .slice (some ⟨b, off, none⟩) (qs.length + 1) cq] 68 (0, 0))) := bX
            have HLX : Hid (LineAt X (some ⟨b, off, none⟩) (lineOf (a :: qs))) := HLQ.out.below HX.out
            have x1 := blk_cell bX 1 _ rfl
            have x2 := blk_cell bX 2 _ rfl
            have hsl : hs.length + 1 ≤ 1048576 := by have h1 := I.out.len; simp only [List.length_cons] at h1; omega
            have HCALL : Hid (∀ Y, Below X.heap.size X Y → Calls Try.prog 43 #[.slice ah hs.length ch, .agg #[.int .i64 a.1, .bool a.2]] Y fun e w2 => ∃ a2 c2, e = .returned (.slice a2 (hs.length + 1) c2) ∧ w2.ownsRow X.heap.size 65 2 (.slice a2 (hs.length + 1) c2) (hs.length + 1) (cellsA (insP hs a)) ∧ Below X.heap.size X w2) := fun Y hY =>
              (l2Hold_any ah hs.length ch (lineOf hs) a.1 a.2 Y rfl (by omega) HSH.out.1 HSH.out.2.1 HSH.out.2.2 ((HLH.out.below HX.out).below hY)).mono fun e w2 ⟨⟨v2, p, h1, h2, h3⟩, h4⟩ => by
                rw [insA_list h2] at h3
                obtain ⟨a2, c2, h5, _⟩ := own_form h3
                subst h5
                exact ⟨a2, c2, h1, own_base h3 hY.size, after hY h4⟩
            clear bX
            go_wp2
            go_region_law (first
              | (go_simp; go_at_call 43; refine Calls.mono (HCALL.out _ (by repeat (first | exact Below.refl _ _ | refine Below.drew ?_))) ?_; rintro e w2 ⟨a2, c2, rfl, ho2, hb2⟩; have z2 := blk_below HBX.out hb2; have y1 := blk_cell z2 1 _ rfl; have yf := blk_free z2 1; dsimp only))
            all_goals
              have hset : Kept w2 (w2.setCell ⟨wo.heap.size, 1, none⟩ (.slice a2 (hs.length + 1) c2)) (fun b => b = wo.heap.size) := (Kept.refl w2 (fun b => b = wo.heap.size)).set (a := ⟨wo.heap.size, 1, none⟩) rfl _
              have bY := heap_setCell_same _ _ 1 _ _ (.slice a2 (hs.length + 1) c2) z2
              generalize w2.setCell ⟨wo.heap.size, 1, none⟩ (.slice a2 (hs.length + 1) c2) = Y at hset bY ⊢
              have HBY : Hid (Y.heap[wo.heap.size]? = some (.cells #[.int .i64 (K k), .slice a2 (hs.length + 1) c2, .slice (some ⟨b, off, none⟩) (qs.length + 1) cq] 68 (0, 0))) := bY
              have hbB : b ≠ wo.heap.size := by
                obtain ⟨_, _, _, _, h1 | h1⟩ := I.out.queue
                · exact absurd h1 (by simp [lineOf])
                · intro e; exact own_box h1 I.out.box (by decide) (by rw [← e]; rfl)
              have hbX : b < X.heap.size := Nat.lt_of_lt_of_le hbw HX.out.size
              have hoX : wo.heap.size < X.heap.size := blk_lt HBX.out
              have blkb : Y.heap[b]? = X.heap[b]? := (hset.block b (Nat.lt_of_lt_of_le hbX hb2.size) hbB).trans (hb2.block b hbX)
              have HLY : Hid (LineAt Y (some ⟨b, off, none⟩) (lineOf (a :: qs))) := lineAt_blk HLX.out blkb
              have hYb : Below wo.heap.size wo Y := Kept.below (after (after I.out.bel HX.out) hb2) (Nat.le_trans (Nat.le_trans I.out.bel.size HX.out.size) hb2.size) hset (fun b e => by have e : b = wo.heap.size := e; omega)
              have oY := own_base (hset.own ho2 (fun g e1 e2 => by have := (World.ownsRow.lt ho2 g e1).1; omega)) (show w.heap.size ≤ X.heap.size by have := HB.out.size; omega)
              have wX := own_below hb2 (own_below HX.out I.out.ents)
              have wY : WaitsIs Y w.heap.size (.slice ag ks.length cg) ks := hset.own wX (fun g e1 e2 => own_box wX z2 (by decide) (e2 ▸ e1))
              have HY : Hid (Below wo.heap.size wo Y ∧ Y.ownsRow w.heap.size 65 2 (.slice a2 (hs.length + 1) c2) (hs.length + 1) (cellsA (insP hs a)) ∧ WaitsIs Y w.heap.size (.slice ag ks.length cg) ks) := ⟨hYb, oY, wY⟩
              have t0 : Y.cell? ⟨b, off, none⟩ = some (.int .i64 a.1) := (World.cell?_of_block (a := ⟨b, off, none⟩) blkb).trans q0
              have t1 := blk_cell HBY.out 1 _ rfl
              have t2 := blk_cell HBY.out 2 _ rfl
              have hpre : es <+: (leftOf H Q x k).2.2 := by rw [HLT.out, I.out.eq]; exact List.prefix_append _ _
              have hk12 : ks.length ≤ 12 := got_few HGL.out hlt I.out.got.1 hpre I.out.got.2
              have hwY : w.heap.size ≤ Y.heap.size := Nat.le_trans HB.out.size hYb.size
              clear hset bY blkb oY wX wY hYb x1 x2 q0 q1 z2 y1 yf ho2 hb2 hpre
              go_wp2_with fail
              refine (l1Put_any ag ks.length cg w.heap.size ks a.1 Y hk12 I.out.got.1 HY.out.2.2 hwY).mono ?_
              rintro e w3 ⟨⟨v3, ks', rfl, hw3, hks⟩, hb3⟩
              obtain ⟨a3, c3, rfl, _⟩ := own_form hw3
              have HB3 : Hid (w3.heap[wo.heap.size]? = some (.cells #[.int .i64 (K k), .slice a2 (hs.length + 1) c2, .slice (some ⟨b, off, none⟩) (qs.length + 1) cq] 68 (0, 0))) := blk_below HBY.out hb3
              have HW3 : Hid (WaitsIs w3 w.heap.size (.slice a3 ks'.length c3) ks' ∧ (Strict ks' ∧ ∀ y, y ∈ ks' ↔ y ∈ ks ∨ y = a.1)) := ⟨hw3, hks.out⟩
              have HX3 : Hid (Below Y.heap.size Y w3) := hb3
              have hlen : qs.length ≤ 12 := by have h1 := I.out.len; simp only [List.length_cons] at h1; omega
              have HE : Hid ((w3.alloc (.cells #[] 65)).ownsRow w.heap.size 65 2 (.slice (some ⟨w3.heap.size, 0, none⟩) 0 0) 0 []) := ⟨rfl, .inr ⟨w3.heap.size, 0, #[], rfl, Nat.le_trans hwY hb3.size, heap_alloc_new w3 _, Nat.le_refl _, Nat.zero_le _, rfl, rfl⟩⟩
              have HT : Hid (LineAt (w3.alloc (.cells #[] 65)) (some ⟨b, off + 2, none⟩) (lineOf qs)) := by
                have h1 := lineAt_tail ((HLY.out.below hb3).below (push (Below.refl _ w3) (.cells #[] 65)))
                rw [tail_lineOf] at h1
                exact h1
              have HLL : Hid ((cellsA qs).length = qs.length * 2) := cellsA_length qs
              have HTC : Hid (∀ ad, some (⟨b, off + 2, none⟩ : Addr) = some ad → ∀ j u, (cellsA qs)[j]? = some u → (w3.alloc (.cells #[] 65)).cell? (ad.add j) = some u) := by
                have h1 := line_cells HT.out
                rw [askList_lineOf] at h1
                exact h1
              have g1 := blk_cell (blk_alloc HB3.out (.cells #[] 65)) 1 _ rfl
              have g2 := blk_cell (blk_alloc HB3.out (.cells #[] 65)) 2 _ rfl
              have gc : (qs.length : Int) + 1 ≤ (cq : Int) := by have := HSQ.out.1; omega
              have gd : (1 : Int) ≤ (qs.length : Int) + 1 := by omega
              have ge : cq ≤ 9223372036854775807 := HSQ.out.2.1
              have hw3s : w.heap.size ≤ (w3.alloc (.cells #[] 65)).heap.size := Nat.le_trans hwY (Nat.le_trans hb3.size (by simp))
              clear t0 t1 t2 hw3 hks hb3
              have FIN : Hid (∀ w5 a5 c5, w5.ownsRow w.heap.size 65 2 (.slice a5 qs.length c5) qs.length (cellsA qs) → (w3.alloc (.cells #[] 65)).grownBy w5 (some w3.heap.size) → SpInv wo w.heap.size wo.heap.size (K k) l1 l2 (insP hs a) qs (entTo H Q x k) (es ++ [a.1]) ks' (.slice a2 (hs.length + 1) c2) (.slice a5 qs.length c5) (.slice a3 ks'.length c3) (w5.setCell ⟨wo.heap.size, 2, none⟩ (.slice a5 qs.length c5))) := fun w5 a5 c5 ho5 hg5 => by
                have k35 : Kept w3 w5 (fun _ => False) := ⟨hg5.os, hg5.tape, hg5.output, Nat.le_trans (by simp) hg5.size, fun j hj _ => (hg5.block j (by simp; omega) (fun e => by cases e; omega)).trans ((push (Below.refl w3.heap.size w3) _).block j hj)⟩
                have b5 := k35.blk HB3.out (fun h => h)
                have kF := (Kept.refl w5 (fun b => b = wo.heap.size)).set (a := ⟨wo.heap.size, 2, none⟩) rfl (.slice a5 qs.length c5)
                have o5 := k35.own (own_below HX3.out HY.out.2.1) (fun _ _ h => h)
                have w5' := k35.own HW3.out.1 (fun _ _ h => h)
                have hbl : Below wo.heap.size wo w5 := Kept.below (after HY.out.1 HX3.out) (Nat.le_trans HY.out.1.size HX3.out.size) k35 (fun _ h => h.elim)
                refine ⟨by rw [I.out.eq, HP.out, List.append_assoc]; rfl, by have h1 := I.out.len; rw [insP_length]; simp only [List.length_cons] at h1; omega, ?_, ?_, ?_, ⟨HW3.out.2.1, fun y => ?_⟩, heap_setCell_same _ _ 2 _ _ (.slice a5 qs.length c5) b5, ?_⟩
                · exact LineV.of_own (show (lineOf (insP hs a)).n = hs.length + 1 from insP_length hs a) (by rw [askList_lineOf]; exact kF.own o5 (fun g e1 e2 => own_box o5 b5 (by decide) (e2 ▸ e1)))
                · exact LineV.of_own rfl (by rw [askList_lineOf]; exact kF.own ho5 (fun g e1 e2 => own_box ho5 b5 (by decide) (e2 ▸ e1)))
                · exact kF.own w5' (fun g e1 e2 => own_box w5' b5 (by decide) (e2 ▸ e1))
                · rw [HW3.out.2.2 y, I.out.got.2 y, ← List.append_assoc, List.mem_append (t := [a.1]), List.mem_singleton]
                · exact Kept.below hbl (Nat.le_trans HY.out.1.size (Nat.le_trans HX3.out.size k35.size)) kF (fun b e => by have e : b = wo.heap.size := e; omega)
              have BF : Hid (∀ w5, (w3.alloc (.cells #[] 65)).grownBy w5 (some w3.heap.size) → w5.heap[wo.heap.size]? = some (.cells #[.int .i64 (K k), .slice a2 (hs.length + 1) c2, .slice (some ⟨b, off, none⟩) (qs.length + 1) cq] 68 (0, 0))) := fun w5 hg5 => (hg5.block _ (by have := blk_lt HB3.out; simp; omega) (fun e => by have := blk_lt HB3.out; simp only [Option.some.injEq] at e; omega)).trans (blk_alloc HB3.out _)
              by_cases hc1 : cq = 1
              · subst hc1
                obtain rfl : qs = [] := List.eq_nil_of_length_eq_zero (by have := HSQ.out.1; omega)
                go_wp2_with (first | (at_builtin; refine wpList_append_any _ (by rfl) (.tmp 54) (.tmp 57) 66 (by rfl) w.heap.size 65 p0 (.agg #[.int .i64 0, .bool false]) 2 16 Try.underlying66 pi pz0 pz1 pz2 rfl (by decide) _ 0 [] (by rfl) HE.out _ 0 _ [] (by rfl) (fun h => (by cases h)) (by rfl) (fun _ _ j u h => (by simp at h)) (by intro u hu; simp at hu) (by unfold maxLen; omega) (by omega) hw3s ?_; intro v5 w5 ho5 hg5; obtain ⟨a5, c5, rfl, _⟩ := own_form ho5; have b5 := BF.out w5 hg5; have f5 := blk_cell b5 2 _ rfl; have fr5 := blk_free b5 2))
                go_roundg 0
                case measure => simp
                case rel => exact ⟨insP hs a, [], es ++ [a.1], ks', _, _, rfl, FIN.out w5 a5 c5 ho5 hg5⟩
              · go_wp2_with (first | (at_builtin; refine wpList_append_any _ (by rfl) (.tmp 54) (.tmp 57) 66 (by rfl) w.heap.size 65 p0 (.agg #[.int .i64 0, .bool false]) 2 16 Try.underlying66 pi pz0 pz1 pz2 rfl (by decide) _ 0 [] (by rfl) HE.out (some ⟨b, off + 2, none⟩) qs.length (cq - 1) (cellsA qs) (by rfl) (fun h => (by cases h)) HLL.out HTC.out (cellsA_one qs) (by unfold maxLen; omega) (by omega) hw3s ?_; intro v5 w5 ho5 hg5; rw [Nat.zero_add, List.nil_append] at ho5; obtain ⟨a5, c5, rfl, _⟩ := own_form ho5; have b5 := BF.out w5 hg5; have f5 := blk_cell b5 2 _ rfl; have fr5 := blk_free b5 2))
                go_roundg qs.length
                case measure => simp
                case rel => exact ⟨insP hs a, qs, es ++ [a.1], ks', _, _, rfl, FIN.out w5 a5 c5 ho5 hg5⟩
    · obtain rfl : k = N := by omega
      go_wp2
      exact bodyPost_ret (v := .tuple #[.slice av ls.length cv, .slice ae ks0.length ce]) (by simp [results, Try.results53, go_sem]) rfl ⟨⟨_, _, ks0, rfl, by rw [HLS.out]; exact ⟨hv, qv, hL⟩, hE, HKS0.out⟩, hbel⟩

end Go.Proofs.Ytompknfmlnlnfaa
