/-
  OWN TEXT: the contract of impl.letIn over own rows.
-/
import Derived.Test.YtompknfmlnlnfaaRiseI
import Derived.Test.YtompknfmlnlnfaaKitG
import Derived.Test.YtompknfmlnlnfaaImplL1
import Derived.Test.YtompknfmlnlnfaaBehI
import Derived.Deep.LoopGhost
import Derived.Deep.RegionLawGrows
namespace Go.Proofs.Ytompknfmlnlnfaa
open Go.RowKit

/-- Where letIn stands. -/
structure LetInv (w : World) (base : Nat) (key : Int) (vh vq : Value) (h q hs qs : List (Int × Bool)) (es : List Int) (vh' v4 : Value) (aq : Option Addr) (cq : Nat) (wr : World) : Prop where
  eq : letP h q = ((letP hs qs).1, (letP hs qs).2.1, es ++ (letP hs qs).2.2)
  len : hs.length + qs.length = h.length + q.length
  len2 : es.length + qs.length = q.length
  held : AsksIs wr base vh' hs
  at_ : ∀ g, vh'.ownBlock = some g → vh.ownBlock = some g ∨ w.heap.size + 2 ≤ g
  line : LineAt wr aq (lineOf qs)
  aqb : ∀ a, aq = some a → vq.ownBlock = some a.block ∧ a.spot = none
  cap : qs.length ≤ cq ∧ cq ≤ 9223372036854775807 ∧ (aq = none → qs.length = 0 ∧ cq = 0)
  ents : WaitsIs wr (w.heap.size + 2) v4 es
  box : wr.heap[w.heap.size]? = some (.cells #[.int .i64 key, vh', vq] 68 (0, 0))
  res : wr.heap[w.heap.size + 1]? = some (.cells #[.int .i64 0, .slice none 0 0, .slice none 0 0] 68 (0, 0))
  kept : Kept w wr (fun b => vh.ownBlock = some b)

theorem lineAt_blk {w w' : World} {b off : Nat} {l : Line} (h : LineAt w (some ⟨b, off, none⟩) l) (hb : w'.heap[b]? = w.heap[b]?) : LineAt w' (some ⟨b, off, none⟩) l := by
  intro k hk
  obtain ⟨b', off', e, h1, h2⟩ := h k hk
  cases e
  exact ⟨b, off, rfl, (World.cell?_of_block (a := ⟨b, off + k * 2, none⟩) hb).trans h1, (World.cell?_of_block (a := ⟨b, off + k * 2 + 1, none⟩) hb).trans h2⟩

set_option maxHeartbeats 3200000 in
set_option maxRecDepth 100000 in
theorem letIn_any (key : Int) (vh vq : Value) (base : Nat) (h q : List (Int × Bool)) (w : World) (hl : h.length + q.length ≤ 1048576) (hh : AsksIs w base vh h) (hq : AsksIs w base vq q) (hap : ∀ b, vh.ownBlock = some b → vq.ownBlock ≠ some b) (hb : base ≤ w.heap.size) :
    Calls Try.prog 51 #[.agg #[.int .i64 key, vh, vq]] w fun e w' => ∃ vh' vq' ve, e = .returned (.tuple #[.agg #[.int .i64 key, vh', vq'], ve]) ∧ AsksIs w' base vh' (letP h q).1 ∧ AsksIs w' base vq' (letP h q).2.1 ∧ WaitsIs w' w.heap.size ve (letP h q).2.2 ∧ (∀ b, vh'.ownBlock = some b → vq'.ownBlock ≠ some b) ∧ Kept w w' (fun b => vh.ownBlock = some b) := by
  obtain ⟨j0, ji, jz0, jz1, jz2⟩ := info_parts Try.infoInt
  obtain ⟨ah, ch, rfl, hhc, _, _⟩ := own_form hh
  obtain ⟨aq0, cq0, rfl, hqc, hqm, hqn⟩ := own_form hq
  have HL : Hid (h.length + q.length ≤ 1048576) := hl
  have HH : Hid (w.ownsRow base 65 2 (.slice ah h.length ch) h.length (cellsA h)) := hh
  have HQ : Hid (w.ownsRow base 65 2 (.slice aq0 q.length cq0) q.length (cellsA q)) := hq
  have HAP : Hid (∀ b, (Value.slice ah h.length ch).ownBlock = some b → (Value.slice aq0 q.length cq0).ownBlock ≠ some b) := hap
  have HBASE : Hid (base ≤ w.heap.size) := hb
  have HC : Hid (q.length ≤ cq0 ∧ cq0 ≤ 9223372036854775807 ∧ (aq0 = none → q.length = 0 ∧ cq0 = 0)) := ⟨hqc, by unfold maxLen at hqm; omega, hqn⟩
  clear hl hh hq hap hb hhc hqc hqm hqn
  have hW : Below w.heap.size w ((w.alloc (.cells #[.int .i64 key, .slice ah h.length ch, .slice aq0 q.length cq0] 68)).alloc (.cells #[.int .i64 0, .slice none 0 0, .slice none 0 0] 68)) := push (push (Below.refl _ _) _) _
  have bW : ((w.alloc (.cells #[.int .i64 key, .slice ah h.length ch, .slice aq0 q.length cq0] 68)).alloc (.cells #[.int .i64 0, .slice none 0 0, .slice none 0 0] 68)).heap[w.heap.size]? = some (.cells #[.int .i64 key, .slice ah h.length ch, .slice aq0 q.length cq0] 68 (0, 0)) := blk_alloc (heap_alloc_new w _) _
  have rW : ((w.alloc (.cells #[.int .i64 key, .slice ah h.length ch, .slice aq0 q.length cq0] 68)).alloc (.cells #[.int .i64 0, .slice none 0 0, .slice none 0 0] 68)).heap[w.heap.size + 1]? = some (.cells #[.int .i64 0, .slice none 0 0, .slice none 0 0] 68 (0, 0)) := new_at2 w _ _
  go_enter Try.func51, Try.ntmps51
  go_wp2
  generalize (w.alloc (.cells #[.int .i64 key, .slice ah h.length ch, .slice aq0 q.length cq0] 68)).alloc (.cells #[.int .i64 0, .slice none 0 0, .slice none 0 0] 68) = W at hW bW rW ⊢
  go_loopg [4, 5] q.length (fun g v4 v5 wr => ∃ hs qs es vh' aq cq, g = qs.length ∧ v5 = .slice aq qs.length cq ∧ LetInv w base key (.slice ah h.length ch) (.slice aq0 q.length cq0) h q hs qs es vh' v4 aq cq wr)
  case atStart =>
    refine ⟨h, q, [], _, aq0, cq0, rfl, rfl, ⟨rfl, rfl, by simp, own_below hW HH.out, fun g e => .inl e, ?_, ?_, HC.out, World.ownsRow_nil _ _ _ _, bW, rW, Kept.of_below hW⟩⟩
    · have h1 := own_below hW HQ.out
      rw [← askList_lineOf] at h1
      exact line_of_own (l := lineOf q) h1
    · intro a e
      subst e
      rcases HQ.out.2 with ⟨h1, _⟩ | ⟨g1, _, _, h1, _⟩
      · cases h1
      · simp only [Value.slice.injEq, Option.some.injEq] at h1
        rw [h1.1]
        exact ⟨rfl, rfl⟩
  case round =>
    obtain ⟨hs, qs, es, vh', aq, cq, rfl, rfl, hI⟩ := hrel
    obtain ⟨ah', ch', rfl, _⟩ := own_form hI.held
    obtain ⟨av, cv, rfl, _⟩ := own_form hI.ents
    have I : Hid (LetInv w base key (.slice ah h.length ch) (.slice aq0 q.length cq0) h q hs qs es (.slice ah' hs.length ch') (.slice av es.length cv) aq cq wr) := hI
    have HLH : Hid (LineAt wr ah' (lineOf hs)) := by
      have h1 := hI.held
      unfold AsksIs at h1
      rw [← askList_lineOf] at h1
      exact line_of_own (l := lineOf hs) h1
    have box := hI.box
    clear hI bW rW hW
    cases qs with
    | nil =>
      have d0 : decide ((0 : Int) < ((([] : List (Int × Bool)).length : Nat) : Int)) = false := rfl
      have r0 : ∀ g : Grown wr, g.val.heap[w.heap.size]? = _ := fun g => blk_below box g.bel
      clear box
      simp only [List.length_nil] at *
      go_upto_region 3 with fail
      refine wp_region_grow (by kernel_rfl) (by kernel_rfl) ?_
      repeat (first | go_big_quiet_skip | (go_big_quiet_want; go_big_quiet_op; go_big_quiet_on))
      refine wpQuiet_nil ?_
      rintro _ ⟨g, rfl⟩
      have hX : Below wr.heap.size wr g.val := g.bel
      have bX := blk_below I.out.box hX
      have rX := blk_below I.out.res hX
      have LX : Hid (LineAt g.val aq (lineOf [])) := I.out.line.below hX
      have HX : Hid (Below wr.heap.size wr g.val) := hX
      clear r0 hX
      generalize g.val = X at bX rX LX HX ⊢
      have HBX : Hid (X.heap[w.heap.size]? = _) := bX
      have HRX : Hid (X.heap[w.heap.size + 1]? = _) := rX
      go_wp2_with fail
      refine (copyAsked_any aq 0 cq (lineOf []) X rfl (Nat.zero_le _) (fun h => ⟨rfl, (I.out.cap.2.2 h).2⟩) LX.out).mono ?_
      rintro e w2 ⟨⟨v2, rfl, ho2⟩, hb2⟩
      obtain ⟨a2, c2, rfl, _⟩ := own_form ho2
      have HO2 : Hid (w2.ownsRow X.heap.size 65 2 (.slice a2 0 c2) 0 (askList (lineOf []))) := ho2
      have HB2 : Hid (Below X.heap.size X w2) := hb2
      have b2 := blk_below HBX.out hb2
      have r2 := blk_below HRX.out hb2
      have z0 := blk_cell b2 0 _ rfl
      have z1 := blk_cell b2 1 _ rfl
      have z2 := blk_cell b2 2 _ rfl
      have y0 := blk_cell r2 0 _ rfl
      have y1 := blk_cell r2 1 _ rfl
      have y2 := blk_cell r2 2 _ rfl
      have f1 := blk_free b2 2
      have f2 := blk_free r2 0
      have f3 := blk_free r2 1
      have f4 := blk_free r2 2
      have HR2 : Hid (w2.heap[w.heap.size + 1]? = _) := r2
      clear ho2 hb2 bX rX b2 r2
      go_wp2
      obtain ⟨F, hF⟩ : ∃ F, F = (((w2.setCell ⟨w.heap.size, 2, none⟩ (.slice a2 0 c2)).setCell ⟨w.heap.size + 1, 0, none⟩ (.int .i64 key)).setCell ⟨w.heap.size + 1, 1, none⟩ (.slice ah' hs.length ch')).setCell ⟨w.heap.size + 1, 2, none⟩ (.slice a2 0 c2) := ⟨_, rfl⟩
      have KF : Kept w2 F (fun b => b = w.heap.size ∨ b = w.heap.size + 1) := by
        rw [hF]
        exact ((((Kept.refl w2 (fun b => b = w.heap.size ∨ b = w.heap.size + 1)).set (a := ⟨w.heap.size, 2, none⟩) (.inl rfl) _).set (a := ⟨w.heap.size + 1, 0, none⟩) (.inr rfl) _).set (a := ⟨w.heap.size + 1, 1, none⟩) (.inr rfl) _).set (a := ⟨w.heap.size + 1, 2, none⟩) (.inr rfl) _
      have rF := heap_setCell_same _ _ 2 _ _ (.slice a2 0 c2) (heap_setCell_same _ _ 1 _ _ (.slice ah' hs.length ch') (heap_setCell_same _ _ 0 _ _ (.int .i64 key) ((Below.heap_setCell w2 ⟨w.heap.size, 2, none⟩ (.slice a2 0 c2) (w.heap.size + 1) (by simp)).trans HR2.out)))
      rw [← hF] at rF ⊢
      have z0 := blk_cell rF 0 _ rfl
      have z1 := blk_cell rF 1 _ rfl
      have z2 := blk_cell rF 2 _ rfl
      have hk : Kept w w2 (fun b => (Value.slice ah h.length ch).ownBlock = some b) := I.out.kept.trans ((Kept.of_below HX.out).trans (Kept.of_below HB2.out))
      have hbox : ∀ gq, (Value.slice ah' hs.length ch').ownBlock = some gq → ¬ (gq = w.heap.size ∨ gq = w.heap.size + 1) := fun gq hq => by
        rcases I.out.at_ gq hq with h1 | h1
        · have := (World.ownsRow.lt HH.out gq h1).2; omega
        · omega
      have hsz := HX.out.size
      have hsw := blk_lt I.out.res
      refine bodyPost_ret (v := .tuple #[.agg #[.int .i64 key, .slice ah' hs.length ch', .slice a2 0 c2], .slice av es.length cv]) (by simp [results, Try.results51, go_sem, z0, z1, z2]) rfl ⟨_, _, _, rfl, ?_, ?_, ?_, ?_, ?_⟩
      · rw [I.out.eq, show letP hs [] = (hs, [], []) from rfl]
        exact KF.own (own_below HB2.out (own_below HX.out I.out.held)) hbox
      · rw [I.out.eq, show letP hs [] = (hs, [], []) from rfl]
        have h1 := HO2.out
        rw [askList_lineOf] at h1
        exact KF.own (own_base h1 (by have := HBASE.out; omega)) (fun gq hq hc => by have := (World.ownsRow.lt HO2.out gq hq).1; omega)
      · rw [I.out.eq, show letP hs [] = (hs, [], []) from rfl, List.append_nil]
        exact KF.own (own_base (own_below HB2.out (own_below HX.out I.out.ents)) (by omega)) (fun gq hq hc => by have := (World.ownsRow.lt I.out.ents gq hq).1; omega)
      · intro b h1 h2
        have h3 := (World.ownsRow.lt HO2.out b h2).1
        have h4 := (World.ownsRow.lt I.out.held b h1).2
        omega
      · exact ⟨KF.os.trans hk.os, KF.tape.trans hk.tape, KF.output.trans hk.output, Nat.le_trans hk.size KF.size, fun k hk1 hk2 => (KF.block k (Nat.lt_of_lt_of_le hk1 hk.size) (by omega)).trans (hk.block k hk1 hk2)⟩
    | cons a qs =>
      obtain ⟨b, off, rfl, c0, c1⟩ := I.out.line 0 (by simp [lineOf])
      have c0 : wr.cell? ⟨b, off, none⟩ = some (.int .i64 a.1) := c0
      have c1 : wr.cell? ⟨b, off + 1, none⟩ = some (.bool a.2) := c1
      have hbw := World.block_lt_of_cell? wr _ c0
      have hne : ∀ g, (Value.slice ah' hs.length ch').ownBlock = some g → g ≠ b := fun g hg e => by
        have h1 : (Value.slice aq0 q.length cq0).ownBlock = some b := (I.out.aqb _ rfl).1
        rcases I.out.at_ g hg with h2 | h2
        · exact HAP.out g h2 (e ▸ h1)
        · have := (World.ownsRow.lt HQ.out b h1).2; omega
      have HNE : Hid (∀ g, (Value.slice ah' hs.length ch').ownBlock = some g → g ≠ b) := hne
      clear hne
      have i0 : decide ((0 : Int) < (((a :: qs).length : Nat) : Int)) = true := by simp
      have i1 : (0 : Int) < (((a :: qs).length : Nat) : Int) := by simp
      have k0 := blk_cell box 0 _ rfl
      have k1 := blk_cell box 1 _ rfl
      have k2 := blk_cell box 2 _ rfl
      have lB := blk_lt box
      have r0 : ∀ g : Grown wr, g.val.cell? ⟨b, off, none⟩ = some (.int .i64 a.1) := fun g => (g.bel.cell (p := ⟨b, off, none⟩) hbw).trans c0
      have r1 : ∀ g : Grown wr, g.val.cell? ⟨b, off + 1, none⟩ = some (.bool a.2) := fun g => (g.bel.cell (p := ⟨b, off + 1, none⟩) hbw).trans c1
      have r2 : ∀ g : Grown wr, g.val.cell? ⟨w.heap.size, 1, none⟩ = some (.slice ah' hs.length ch') := fun g => (g.bel.cell (p := ⟨w.heap.size, 1, none⟩) lB).trans k1
      clear k0 k1 k2 box
      go_upto_region 3 with fail
      cases hm : mayP hs a.2 with
      | false =>
        have HM : Hid (mayB (lineOf hs) a.2 = false) := (mayB_lineOf hs a.2).trans hm
        have HP : Hid (letP hs (a :: qs) = (hs, a :: qs, [])) := letP_no hm
        clear hm
        refine wp_region_grow (by kernel_rfl) (by kernel_rfl) ?_
        repeat (first | go_big_quiet_skip | (go_big_quiet_want; go_big_quiet_op; first | go_big_quiet_on | (apply Exists.intro; refine ⟨fun g => ?_, ?_⟩; (focus (go_at_call 63; refine grown_call (v := .bool false) ((mayHold_any _ _ _ (lineOf hs) _ _ _ rfl (HLH.out.below g.bel)).mono ?_); rintro e w4 ⟨rfl, hbb⟩; exact ⟨by rw [HM.out], hbb⟩)); go_big_quiet_on)))
        refine wpQuiet_nil ?_
        rintro _ ⟨g, rfl⟩
        clear r1 r2
        have hX : Below wr.heap.size wr g.val := g.bel
        have bX := blk_below I.out.box hX
        have rX := blk_below I.out.res hX
        have LX : Hid (LineAt g.val (some ⟨b, off, none⟩) (lineOf (a :: qs))) := I.out.line.below hX
        have HX : Hid (Below wr.heap.size wr g.val) := hX
        clear r0 hX
        generalize g.val = X at bX rX LX HX ⊢
        have HBX : Hid (X.heap[w.heap.size]? = _) := bX
        have HRX : Hid (X.heap[w.heap.size + 1]? = _) := rX
        go_wp2_with fail
        refine (copyAsked_any (some ⟨b, off, none⟩) (qs.length + 1) cq (lineOf (a :: qs)) X rfl (by have h1 := I.out.len; have h2 := HL.out; simp only [List.length_cons] at h1; omega) (fun h => by cases h) LX.out).mono ?_
        rintro e w2 ⟨⟨v2, rfl, ho2⟩, hb2⟩
        obtain ⟨a2, c2, rfl, _⟩ := own_form ho2
        have HO2 : Hid (w2.ownsRow X.heap.size 65 2 (.slice a2 (qs.length + 1) c2) (qs.length + 1) (askList (lineOf (a :: qs)))) := ho2
        have HB2 : Hid (Below X.heap.size X w2) := hb2
        have b2 := blk_below HBX.out hb2
        have r2 := blk_below HRX.out hb2
        have z0 := blk_cell b2 0 _ rfl
        have z1 := blk_cell b2 1 _ rfl
        have z2 := blk_cell b2 2 _ rfl
        have y0 := blk_cell r2 0 _ rfl
        have y1 := blk_cell r2 1 _ rfl
        have y2 := blk_cell r2 2 _ rfl
        have f1 := blk_free b2 2
        have f2 := blk_free r2 0
        have f3 := blk_free r2 1
        have f4 := blk_free r2 2
        have HR2 : Hid (w2.heap[w.heap.size + 1]? = _) := r2
        clear ho2 hb2 bX rX b2 r2
        go_wp2
        obtain ⟨F, hF⟩ : ∃ F, F = (((w2.setCell ⟨w.heap.size, 2, none⟩ (.slice a2 (qs.length + 1) c2)).setCell ⟨w.heap.size + 1, 0, none⟩ (.int .i64 key)).setCell ⟨w.heap.size + 1, 1, none⟩ (.slice ah' hs.length ch')).setCell ⟨w.heap.size + 1, 2, none⟩ (.slice a2 (qs.length + 1) c2) := ⟨_, rfl⟩
        have KF : Kept w2 F (fun b => b = w.heap.size ∨ b = w.heap.size + 1) := by
          rw [hF]
          exact ((((Kept.refl w2 (fun b => b = w.heap.size ∨ b = w.heap.size + 1)).set (a := ⟨w.heap.size, 2, none⟩) (.inl rfl) _).set (a := ⟨w.heap.size + 1, 0, none⟩) (.inr rfl) _).set (a := ⟨w.heap.size + 1, 1, none⟩) (.inr rfl) _).set (a := ⟨w.heap.size + 1, 2, none⟩) (.inr rfl) _
        have rF := heap_setCell_same _ _ 2 _ _ (.slice a2 (qs.length + 1) c2) (heap_setCell_same _ _ 1 _ _ (.slice ah' hs.length ch') (heap_setCell_same _ _ 0 _ _ (.int .i64 key) ((Below.heap_setCell w2 ⟨w.heap.size, 2, none⟩ (.slice a2 (qs.length + 1) c2) (w.heap.size + 1) (by simp)).trans HR2.out)))
        rw [← hF] at rF ⊢
        have z0 := blk_cell rF 0 _ rfl
        have z1 := blk_cell rF 1 _ rfl
        have z2 := blk_cell rF 2 _ rfl
        have hk : Kept w w2 (fun b => (Value.slice ah h.length ch).ownBlock = some b) := I.out.kept.trans ((Kept.of_below HX.out).trans (Kept.of_below HB2.out))
        have hbox : ∀ gq, (Value.slice ah' hs.length ch').ownBlock = some gq → ¬ (gq = w.heap.size ∨ gq = w.heap.size + 1) := fun gq hq => by
          rcases I.out.at_ gq hq with h1 | h1
          · have := (World.ownsRow.lt HH.out gq h1).2; omega
          · omega
        have hsz := HX.out.size
        have hsw := blk_lt I.out.res
        refine bodyPost_ret (v := .tuple #[.agg #[.int .i64 key, .slice ah' hs.length ch', .slice a2 (qs.length + 1) c2], .slice av es.length cv]) (by simp [results, Try.results51, go_sem, z0, z1, z2]) rfl ⟨_, _, _, rfl, ?_, ?_, ?_, ?_, ?_⟩
        · rw [I.out.eq, HP.out]
          exact KF.own (own_below HB2.out (own_below HX.out I.out.held)) hbox
        · rw [I.out.eq, HP.out]
          have h1 := HO2.out
          rw [askList_lineOf] at h1
          exact KF.own (own_base h1 (by have := HBASE.out; omega)) (fun gq hq hc => by have := (World.ownsRow.lt HO2.out gq hq).1; omega)
        · rw [I.out.eq, HP.out, List.append_nil]
          exact KF.own (own_base (own_below HB2.out (own_below HX.out I.out.ents)) (by omega)) (fun gq hq hc => by have := (World.ownsRow.lt I.out.ents gq hq).1; omega)
        · intro b h1 h2
          have h3 := (World.ownsRow.lt HO2.out b h2).1
          have h4 := (World.ownsRow.lt I.out.held b h1).2
          omega
        · exact ⟨KF.os.trans hk.os, KF.tape.trans hk.tape, KF.output.trans hk.output, Nat.le_trans hk.size KF.size, fun k hk1 hk2 => (KF.block k (Nat.lt_of_lt_of_le hk1 hk.size) (by omega)).trans (hk.block k hk1 hk2)⟩
      | true =>
        have HM : Hid (mayB (lineOf hs) a.2 = true) := (mayB_lineOf hs a.2).trans hm
        have HP : Hid (letP hs (a :: qs) = ((letP (insP hs a) qs).1, (letP (insP hs a) qs).2.1, a.1 :: (letP (insP hs a) qs).2.2)) := letP_yes hm
        clear hm
        refine wp_region_grow (by kernel_rfl) (by kernel_rfl) ?_
        repeat (first | go_big_quiet_skip | (go_big_quiet_want; go_big_quiet_op; first | go_big_quiet_on | (apply Exists.intro; refine ⟨fun g => ?_, ?_⟩; (focus (go_at_call 63; refine grown_call (v := .bool true) ((mayHold_any _ _ _ (lineOf hs) _ _ _ rfl (HLH.out.below g.bel)).mono ?_); rintro e w4 ⟨rfl, hbb⟩; exact ⟨by rw [HM.out], hbb⟩)); go_big_quiet_on)))
        refine wpQuiet_nil ?_
        rintro _ ⟨g, rfl⟩
        have hX : Below wr.heap.size wr g.val := g.bel
        have bX := blk_below I.out.box hX
        have rX := blk_below I.out.res hX
        have q0 := r0 g
        have q1 := r1 g
        have HX : Hid (Below wr.heap.size wr g.val) := hX
        clear r0 r1 r2 hX
        generalize g.val = X at bX rX HX q0 q1 ⊢
        have HBX : Hid (X.heap[w.heap.size]? = _) := bX
        have HRX : Hid (X.heap[w.heap.size + 1]? = _) := rX
        have HQX : Hid (X.cell? ⟨b, off, none⟩ = some (.int .i64 a.1)) := q0
        have x1 := blk_cell bX 1 _ rfl
        have HCALL : Hid (∀ Y, Below X.heap.size X Y → Calls Try.prog 64 #[.slice ah' hs.length ch', .agg #[.int .i64 a.1, .bool a.2]] Y fun e w2 => ∃ a2 c2, e = .returned (.slice a2 (hs.length + 1) c2) ∧ AsksIs w2 base (.slice a2 (hs.length + 1) c2) (insP hs a) ∧ (∀ g, (Value.slice a2 (hs.length + 1) c2).ownBlock = some g → (Value.slice ah' hs.length ch').ownBlock = some g ∨ X.heap.size ≤ g) ∧ Kept X w2 (fun b => (Value.slice ah' hs.length ch').ownBlock = some b)) := fun Y hY =>
          (putRising_any ah' hs.length ch' base hs a.1 a.2 Y rfl (by have h1 := I.out.len; have h2 := HL.out; simp only [List.length_cons] at h1; omega) (AsksIs.below (AsksIs.below I.out.held HX.out) hY) (by have := HBASE.out; have := I.out.kept.size; have := HX.out.size; have := hY.size; omega)).mono fun e w2 ⟨v2, h1, h2, h3, h4⟩ => by
            obtain ⟨a2, c2, h5, _⟩ := own_form h2
            rw [insP_length] at h5
            subst h5
            exact ⟨a2, c2, h1, h2, fun g hg => (h4 g hg).imp_right (fun h => Nat.le_trans hY.size h), (Kept.of_below hY).trans h3⟩
        have hbx : ∀ gq, (Value.slice ah' hs.length ch').ownBlock = some gq → ¬ (gq = w.heap.size ∨ gq = w.heap.size + 1) := fun gq hq => by
          rcases I.out.at_ gq hq with h1 | h1
          · have := (World.ownsRow.lt HH.out gq h1).2; omega
          · omega
        have HBB : Hid (∀ gq, (Value.slice ah' hs.length ch').ownBlock = some gq → ¬ (gq = w.heap.size ∨ gq = w.heap.size + 1)) := hbx
        clear hbx bX rX
        go_wp2
        go_region_law (first
          | (go_simp; go_at_call 64; refine Calls.mono (HCALL.out _ (by repeat (first | exact Below.refl _ _ | refine Below.drew ?_))) ?_; rintro e w2 ⟨a2, c2, rfl, ho2, hat2, hk2⟩; have z2 := hk2.blk HBX.out (fun h => HBB.out _ h (.inl rfl)); have y1 := blk_cell z2 1 _ rfl; have yf := blk_free z2 1; dsimp only))
        all_goals
          have hb8 : b < w.heap.size := (World.ownsRow.lt HQ.out b (I.out.aqb _ rfl).1).2
          have hXs : w.heap.size + 2 ≤ X.heap.size := blk_lt HRX.out
          have hset : Kept w2 (w2.setCell ⟨w.heap.size, 1, none⟩ (.slice a2 (hs.length + 1) c2)) (fun b => b = w.heap.size) := (Kept.refl w2 (fun b => b = w.heap.size)).set (a := ⟨w.heap.size, 1, none⟩) rfl _
          have bY := heap_setCell_same _ _ 1 _ _ (.slice a2 (hs.length + 1) c2) z2
          generalize w2.setCell ⟨w.heap.size, 1, none⟩ (.slice a2 (hs.length + 1) c2) = Y at hset bY ⊢
          have rY : Y.heap[w.heap.size + 1]? = some (.cells #[.int .i64 0, .slice none 0 0, .slice none 0 0] 68 (0, 0)) := hset.blk (hk2.blk HRX.out (fun h => HBB.out _ h (.inr rfl))) (by omega)
          have blkb : Y.heap[b]? = wr.heap[b]? := (hset.block b (by have := hk2.size; omega) (by omega)).trans ((hk2.block b (by omega) (fun h => HNE.out b h rfl)).trans (HX.out.block b (by have := I.out.kept.size; omega)))
          have lY : LineAt Y (some ⟨b, off, none⟩) (lineOf (a :: qs)) := lineAt_blk I.out.line blkb
          have oY : AsksIs Y base (.slice a2 (hs.length + 1) c2) (insP hs a) := hset.own ho2 (fun gq hq hc => by
            rcases hat2 gq hq with h1 | h1
            · exact HBB.out gq h1 (.inl hc)
            · omega)
          have atY : ∀ gq, (Value.slice a2 (hs.length + 1) c2).ownBlock = some gq → (Value.slice ah h.length ch).ownBlock = some gq ∨ w.heap.size + 2 ≤ gq := fun gq hq => by
            rcases hat2 gq hq with h1 | h1
            · exact I.out.at_ gq h1
            · exact .inr (by omega)
          have eX := own_below HX.out I.out.ents
          have eY : WaitsIs Y (w.heap.size + 2) (.slice av es.length cv) es := hset.own (hk2.own eX (fun gq hq hc => own_apart eX (own_below HX.out I.out.held) (by decide) gq hq hc)) (fun gq hq hc => by have := (World.ownsRow.lt eX gq hq).1; omega)
          have kx := I.out.kept.trans (Kept.of_below HX.out)
          have kY : Kept w Y (fun b => (Value.slice ah h.length ch).ownBlock = some b) := ⟨(hset.os.trans hk2.os).trans kx.os, (hset.tape.trans hk2.tape).trans kx.tape, (hset.output.trans hk2.output).trans kx.output, Nat.le_trans kx.size (Nat.le_trans hk2.size hset.size), fun k h1 h2 => (hset.block k (by have := kx.size; have := hk2.size; omega) (by omega)).trans ((hk2.block k (by have := kx.size; omega) (fun h3 => by
            rcases I.out.at_ k h3 with h4 | h4
            · exact h2 h4
            · omega)).trans (kx.block k h1 h2))⟩
          have q0Y : Y.cell? ⟨b, off, none⟩ = some (.int .i64 a.1) := (World.cell?_of_block (a := ⟨b, off, none⟩) blkb).trans c0
          have hYs : w.heap.size + 2 ≤ Y.heap.size := blk_lt rY
          have hes : es.length + 1 ≤ 1048576 := by have h1 := I.out.len2; have h2 := HL.out; simp only [List.length_cons] at h1; omega
          have hcq : qs.length + 1 ≤ cq ∧ cq ≤ 9223372036854775807 := ⟨I.out.cap.1, I.out.cap.2.1⟩
          have hq1 : qs.length + 1 ≤ 1048576 := by have h1 := I.out.len2; have h2 := HL.out; simp only [List.length_cons] at h1; omega
          have HY : Hid (LineAt Y (some ⟨b, off, none⟩) (lineOf (a :: qs)) ∧ AsksIs Y base (.slice a2 (hs.length + 1) c2) (insP hs a) ∧ WaitsIs Y (w.heap.size + 2) (.slice av es.length cv) es ∧ Kept w Y (fun b => (Value.slice ah h.length ch).ownBlock = some b)) := ⟨lY, oY, eY, kY⟩
          have HAT : Hid (∀ gq, (Value.slice a2 (hs.length + 1) c2).ownBlock = some gq → (Value.slice ah h.length ch).ownBlock = some gq ∨ w.heap.size + 2 ≤ gq) := atY
          have HBY : Hid (Y.heap[w.heap.size]? = some (.cells #[.int .i64 key, .slice a2 (hs.length + 1) c2, .slice aq0 q.length cq0] 68 (0, 0))) := bY
          have HRY : Hid (Y.heap[w.heap.size + 1]? = some (.cells #[.int .i64 0, .slice none 0 0, .slice none 0 0] 68 (0, 0))) := rY
          clear hset bY rY blkb lY oY atY eX eY kx kY hk2 ho2 hat2 z2 y1 yf
          go_wp2_with (first
            | (at_builtin; refine wpList_append_lies _ (by rfl) (.tmp 26) (.tmp 31) 33 (by rfl) (w.heap.size + 2) 3 j0 (.int .i64 0) 1 8 Try.underlying33 ji jz0 jz1 jz2 rfl (by decide) _ es.length (cellsI es) (by rfl) (HY.out.2.2.1.alloc _) ⟨Y.heap.size, 0, none⟩ 1 1 [.int .i64 a.1] (by rfl) (by rfl) (World.news_of_block (heap_alloc_new Y _)) (by intro u hu; simp at hu; rcases hu with rfl; rfl) (by decide) (by unfold maxLen; omega) (by omega) (by simp; omega) (Y.heap.size + 1) (by simp) ?_; intro g5 c5 w5 ho5 hg5 hat5 hlt5; have HG5 : Hid (Kept Y w5 (fun b => (Value.slice av es.length cv).ownBlock = some b)) := (Kept.of_below (push (Below.refl _ _) _)).trans (kept_of_grown hg5); have HB5 : Hid (b < w.heap.size) := hb8)
            | (go_at_call 69; refine (behindFirst_any b off (qs.length + 1) cq (lineOf (a :: qs)) w5 rfl (by omega) hq1 hcq.1 hcq.2 (lineAt_blk HY.out.1 (HG5.out.block b (by omega) (fun h => by have := (World.ownsRow.lt HY.out.2.2.1 b h).1; have := HB5.out; omega)))).mono ?_; rintro e w6 ⟨off', rfl, rfl, hl6⟩))
          go_roundg qs.length
          case measure => simp
          case rel =>
            have hno : ∀ k, k < w.heap.size + 2 → ¬ (Value.slice av es.length cv).ownBlock = some k := fun k h1 h2 => by have := (World.ownsRow.lt HY.out.2.2.1 k h2).1; omega
            refine ⟨insP hs a, qs, es ++ [a.1], .slice a2 (hs.length + 1) c2, some ⟨b, off', none⟩, qs.length, rfl, rfl, ?_⟩
            rw [tail_lineOf] at hl6
            exact ⟨by rw [I.out.eq, HP.out, List.append_assoc]; rfl, by have h1 := I.out.len; rw [insP_length]; simp only [List.length_cons] at h1; omega, by have h1 := I.out.len2; rw [List.length_append]; simp only [List.length_cons, List.length_nil] at h1 ⊢; omega,
              HG5.out.own HY.out.2.1 (fun gq h1 h2 => own_apart HY.out.2.2.1 HY.out.2.1 (by decide) gq h2 h1), HAT.out, hl6, fun x e => by cases e; exact ⟨(I.out.aqb _ rfl).1, rfl⟩, ⟨Nat.le_refl _, by omega, fun h => by cases h⟩,
              by unfold WaitsIs; rw [List.length_append, cellsI_snoc]; exact ho5, HG5.out.blk HBY.out (hno _ (by omega)), HG5.out.blk HRY.out (hno _ (by omega)),
              ⟨HG5.out.os.trans HY.out.2.2.2.os, HG5.out.tape.trans HY.out.2.2.2.tape, HG5.out.output.trans HY.out.2.2.2.output, Nat.le_trans HY.out.2.2.2.size HG5.out.size, fun k h1 h2 => (HG5.out.block k (by have := HY.out.2.2.2.size; omega) (hno k (by omega))).trans (HY.out.2.2.2.block k h1 h2)⟩⟩

end Go.Proofs.Ytompknfmlnlnfaa
