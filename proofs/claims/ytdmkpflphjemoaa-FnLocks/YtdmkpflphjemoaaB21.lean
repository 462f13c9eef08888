/-
  OWN TEXT: LetI, SpecLv.
-/
import Derived.Deep.LoopGhost
import Derived.Deep.RegionLawGrows
import Derived.Deep.AppendLies
import Derived.Test.YtdmkpflphjemoaaB20
import Derived.Test.YtdmkpflphjemoaaB17
import Derived.Test.YtdmkpflphjemoaaB10
import Derived.Test.YtdmkpflphjemoaaB14
import Derived.Test.YtdmkpflphjemoaaB16
namespace Go.Proofs.Ytdmkpflphjemoaa
open Go.RowKit

/-- Where letIn stands. -/
structure LetInv (w : World) (base : Nat) (key : Int) (vh vq : Value) (h q hs qs : List (Int × Bool)) (es : List Int) (vh' v4 : Value) (aq : Option Addr) (cq : Nat) (wr : World) : Prop where
  eq : letP h q = ((letP hs qs).1, (letP hs qs).2.1, es ++ (letP hs qs).2.2)
  len : hs.length + qs.length = h.length + q.length
  len2 : es.length + qs.length = q.length
  held : AsksIs wr base vh' hs
  at_ : ∀ g, vh'.ownBlock = some g → vh.ownBlock = some g ∨ w.heap.size + 2 ≤ g
  line : LineAt wr aq (lineOf qs)
  aqb : ∀ a, aq = some a → vq.ownBlock = some a.block ∧ a.spot = none
  cap : qs.length ≤ cq ∧ cq ≤ 9223372036854775807 ∧ (aq = none → qs.length = 0 ∧ cq = 0)
  ents : WaitsIs wr (w.heap.size + 2) v4 es
  box : wr.heap[w.heap.size]? = some (.cells #[.int .i64 key, vh', vq] 60 (0, 0))
  res : wr.heap[w.heap.size + 1]? = some (.cells #[.int .i64 0, .slice none 0 0, .slice none 0 0] 60 (0, 0))
  kept : Kept w wr (fun b => vh.ownBlock = some b)

theorem lineAt_blk {w w' : World} {b off : Nat} {l : Line} (h : LineAt w (some ⟨b, off, none⟩) l) (hb : w'.heap[b]? = w.heap[b]?) : LineAt w' (some ⟨b, off, none⟩) l := by
  intro k hk
  obtain ⟨b', off', e, h1, h2⟩ := h k hk
  cases e
  exact ⟨b, off, rfl, (World.cell?_of_block (a := ⟨b, off + k * 2, none⟩) hb).trans h1, (World.cell?_of_block (a := ⟨b, off + k * 2 + 1, none⟩) hb).trans h2⟩

set_option maxHeartbeats 3200000 in
set_option maxRecDepth 100000 in
theorem letIn_any (key : Int) (vh vq : Value) (base : Nat) (h q : List (Int × Bool)) (w : World) (hl : h.length + q.length ≤ 1048576) (hh : AsksIs w base vh h) (hq : AsksIs w base vq q) (hap : ∀ b, vh.ownBlock = some b → vq.ownBlock ≠ some b) (hb : base ≤ w.heap.size) :
    Calls Try.prog 41 #[.agg #[.int .i64 key, vh, vq]] w fun e w' => ∃ vh' vq' ve, e = .returned (.tuple #[.agg #[.int .i64 key, vh', vq'], ve]) ∧ AsksIs w' base vh' (letP h q).1 ∧ AsksIs w' base vq' (letP h q).2.1 ∧ WaitsIs w' w.heap.size ve (letP h q).2.2 ∧ (∀ b, vh'.ownBlock = some b → vq'.ownBlock ≠ some b) ∧ Kept w w' (fun b => vh.ownBlock = some b) := by
  obtain ⟨j0, ji, jz0, jz1, jz2⟩ := info_parts Try.infoInt
  obtain ⟨ah, ch, rfl, hhc, _, _⟩ := own_form hh
  obtain ⟨aq0, cq0, rfl, hqc, hqm, hqn⟩ := own_form hq
  have HL : Hid (h.length + q.length ≤ 1048576) := hl
  have HH : Hid (w.ownsRow base 57 2 (.slice ah h.length ch) h.length (cellsA h)) := hh
  have HQ : Hid (w.ownsRow base 57 2 (.slice aq0 q.length cq0) q.length (cellsA q)) := hq
  have HAP : Hid (∀ b, (Value.slice ah h.length ch).ownBlock = some b → (Value.slice aq0 q.length cq0).ownBlock ≠ some b) := hap
  have HBASE : Hid (base ≤ w.heap.size) := hb
  have HC : Hid (q.length ≤ cq0 ∧ cq0 ≤ 9223372036854775807 ∧ (aq0 = none → q.length = 0 ∧ cq0 = 0)) := ⟨hqc, by unfold maxLen at hqm; omega, hqn⟩
  clear hl hh hq hap hb hhc hqc hqm hqn
  have hW : Below w.heap.size w ((w.alloc (.cells #[.int .i64 key, .slice ah h.length ch, .slice aq0 q.length cq0] 60)).alloc (.cells #[.int .i64 0, .slice none 0 0, .slice none 0 0] 60)) := push (push (Below.refl _ _) _) _
  have bW : ((w.alloc (.cells #[.int .i64 key, .slice ah h.length ch, .slice aq0 q.length cq0] 60)).alloc (.cells #[.int .i64 0, .slice none 0 0, .slice none 0 0] 60)).heap[w.heap.size]? = some (.cells #[.int .i64 key, .slice ah h.length ch, .slice aq0 q.length cq0] 60 (0, 0)) := blk_alloc (heap_alloc_new w _) _
  have rW : ((w.alloc (.cells #[.int .i64 key, .slice ah h.length ch, .slice aq0 q.length cq0] 60)).alloc (.cells #[.int .i64 0, .slice none 0 0, .slice none 0 0] 60)).heap[w.heap.size + 1]? = some (.cells #[.int .i64 0, .slice none 0 0, .slice none 0 0] 60 (0, 0)) := new_at2 w _ _
  go_enter Try.func41, Try.ntmps41
  go_wp2
  generalize (w.alloc (.cells #[.int .i64 key, .slice ah h.length ch, .slice aq0 q.length cq0] 60)).alloc (.cells #[.int .i64 0, .slice none 0 0, .slice none 0 0] 60) = W at hW bW rW ⊢
  go_loopg [4, 5] q.length (fun g v4 v5 wr => ∃ hs qs es vh' aq cq, g = qs.length ∧ v5 = .slice aq qs.length cq ∧ LetInv w base key (.slice ah h.length ch) (.slice aq0 q.length cq0) h q hs qs es vh' v4 aq cq wr)
  case atStart =>
    refine ⟨h, q, [], _, aq0, cq0, rfl, rfl, ⟨rfl, rfl, by simp, own_below hW HH.out, fun g e => .inl e, ?_, ?_, HC.out, World.ownsRow_nil _ _ _ _, bW, rW, Kept.of_below hW⟩⟩
    · have h1 := own_below hW HQ.out
      rw [← askList_lineOf] at h1
      exact line_of_own (l := lineOf q) h1
    · intro a e
      subst e
      rcases HQ.out.2 with ⟨h1, _⟩ | ⟨g1, _, _, h1, _⟩
      · cases h1
      · simp only [Value.slice.injEq, Option.some.injEq] at h1
        rw [h1.1]
        exact ⟨rfl, rfl⟩
  case round =>
    obtain ⟨hs, qs, es, vh', aq, cq, rfl, rfl, hI⟩ := hrel
    obtain ⟨ah', ch', rfl, _⟩ := own_form hI.held
    obtain ⟨av, cv, rfl, _⟩ := own_form hI.ents
    have I : Hid (LetInv w base key (.slice ah h.length ch) (.slice aq0 q.length cq0) h q hs qs es (.slice ah' hs.length ch') (.slice av es.length cv) aq cq wr) := hI
    have HLH : Hid (LineAt wr ah' (lineOf hs)) := by
      have h1 := hI.held
      unfold AsksIs at h1
      rw [← askList_lineOf] at h1
      exact line_of_own (l := lineOf hs) h1
    have box := hI.box
    clear hI bW rW hW
    cases qs with
    | nil =>
      have d0 : decide ((0 : Int) < ((([] : List (Int × Bool)).length : Nat) : Int)) = false := rfl
      have r0 : ∀ g : Grown wr, g.val.heap[w.heap.size]? = _ := fun g => blk_below box g.bel
      clear box
      simp only [List.length_nil] at *
      go_upto_region 3 with fail
      refine wp_region_grow (by kernel_rfl) (by kernel_rfl) ?_
      repeat (first | go_big_quiet_skip | (go_big_quiet_want; go_big_quiet_op; go_big_quiet_on))
      refine wpQuiet_nil ?_
      rintro _ ⟨g, rfl⟩
      have hX : Below wr.heap.size wr g.val := g.bel
      have bX := blk_below I.out.box hX
      have rX := blk_below I.out.res hX
      have LX : Hid (LineAt g.val aq (lineOf [])) := I.out.line.below hX
      have HX : Hid (Below wr.heap.size wr g.val) := hX
      clear r0 hX
      generalize g.val = X at bX rX LX HX ⊢
      have HBX : Hid (X.heap[w.heap.size]? = _) := bX
      have HRX : Hid (X.heap[w.heap.size + 1]? = _) := rX
      go_wp2_with fail
      refine (copyAsked_any aq 0 cq (lineOf []) X rfl (Nat.zero_le _) (fun h => ⟨rfl, (I.out.cap.2.2 h).2⟩) LX.out).mono ?_
      rintro e w2 ⟨⟨v2, rfl, ho2⟩, hb2⟩
      obtain ⟨a2, c2, rfl, _⟩ := own_form ho2
      have HO2 : Hid (w2.ownsRow X.heap.size 57 2 (.slice a2 0 c2) 0 (askList (lineOf []))) := ho2
      have HB2 : Hid (Below X.heap.size X w2) := hb2
      have b2 := blk_below HBX.out hb2
      have r2 := blk_below HRX.out hb2
      have z0 := blk_cell b2 0 _ rfl
      have z1 := blk_cell b2 1 _ rfl
      have z2 := blk_cell b2 2 _ rfl
      have y0 := blk_cell r2 0 _ rfl
      have y1 := blk_cell r2 1 _ rfl
      have y2 := blk_cell r2 2 _ rfl
      have f1 := blk_free b2 2
      have f2 := blk_free r2 0
      have f3 := blk_free r2 1
      have f4 := blk_free r2 2
      have HR2 : Hid (w2.heap[w.heap.size + 1]? = _) := r2
      clear ho2 hb2 bX rX b2 r2
      go_wp2
      obtain ⟨F, hF⟩ : ∃ F, F = (((w2.setCell ⟨w.heap.size, 2, none⟩ (.slice a2 0 c2)).setCell ⟨w.heap.size + 1, 0, none⟩ (.int .i64 key)).setCell ⟨w.heap.size + 1, 1, none⟩ (.slice ah' hs.length ch')).setCell ⟨w.heap.size + 1, 2, none⟩ (.slice a2 0 c2) := ⟨_, rfl⟩
      have KF : Kept w2 F (fun b => b = w.heap.size ∨ b = w.heap.size + 1) := by
        rw [hF]
        exact ((((Kept.refl w2 (fun b => b = w.heap.size ∨ b = w.heap.size + 1)).set (a := ⟨w.heap.size, 2, none⟩) (.inl rfl) _).set (a := ⟨w.heap.size + 1, 0, none⟩) (.inr rfl) _).set (a := ⟨w.heap.size + 1, 1, none⟩) (.inr rfl) _).set (a := ⟨w.heap.size + 1, 2, none⟩) (.inr rfl) _
      have rF := heap_setCell_same _ _ 2 _ _ (.slice a2 0 c2) (heap_setCell_same _ _ 1 _ _ (.slice ah' hs.length ch') (heap_setCell_same _ _ 0 _ _ (.int .i64 key) ((Below.heap_setCell w2 ⟨w.heap.size, 2, none⟩ (.slice a2 0 c2) (w.heap.size + 1) (by simp)).trans HR2.out)))
      rw [← hF] at rF ⊢
      have z0 := blk_cell rF 0 _ rfl
      have z1 := blk_cell rF 1 _ rfl
      have z2 := blk_cell rF 2 _ rfl
      have hk : Kept w w2 (fun b => (Value.slice ah h.length ch).ownBlock = some b) := I.out.kept.trans ((Kept.of_below HX.out).trans (Kept.of_below HB2.out))
      have hbox : ∀ gq, (Value.slice ah' hs.length ch').ownBlock = some gq → ¬ (gq = w.heap.size ∨ gq = w.heap.size + 1) := fun gq hq => by
        rcases I.out.at_ gq hq with h1 | h1
        · have := (World.ownsRow.lt HH.out gq h1).2; omega
        · omega
      have hsz := HX.out.size
      have hsw := blk_lt I.out.res
      refine bodyPost_ret (v := .tuple #[.agg #[.int .i64 key, .slice ah' hs.length ch', .slice a2 0 c2], .slice av es.length cv]) (by simp [results, Try.results41, go_sem, z0, z1, z2]) rfl ⟨_, _, _, rfl, ?_, ?_, ?_, ?_, ?_⟩
      · rw [I.out.eq, show letP hs [] = (hs, [], []) from rfl]
        exact KF.own (own_below HB2.out (own_below HX.out I.out.held)) hbox
      · rw [I.out.eq, show letP hs [] = (hs, [], []) from rfl]
        have h1 := HO2.out
        rw [askList_lineOf] at h1
        exact KF.own (own_base h1 (by have := HBASE.out; omega)) (fun gq hq hc => by have := (World.ownsRow.lt HO2.out gq hq).1; omega)
      · rw [I.out.eq, show letP hs [] = (hs, [], []) from rfl, List.append_nil]
        exact KF.own (own_base (own_below HB2.out (own_below HX.out I.out.ents)) (by omega)) (fun gq hq hc => by have := (World.ownsRow.lt I.out.ents gq hq).1; omega)
      · intro b h1 h2
        have h3 := (World.ownsRow.lt HO2.out b h2).1
        have h4 := (World.ownsRow.lt I.out.held b h1).2
        omega
      · exact ⟨KF.os.trans hk.os, KF.tape.trans hk.tape, KF.output.trans hk.output, Nat.le_trans hk.size KF.size, fun k hk1 hk2 => (KF.block k (Nat.lt_of_lt_of_le hk1 hk.size) (by omega)).trans (hk.block k hk1 hk2)⟩
    | cons a qs =>
      obtain ⟨b, off, rfl, c0, c1⟩ := I.out.line 0 (by simp [lineOf])
      have c0 : wr.cell? ⟨b, off, none⟩ = some (.int .i64 a.1) := c0
      have c1 : wr.cell? ⟨b, off + 1, none⟩ = some (.bool a.2) := c1
      have hbw := World.block_lt_of_cell? wr _ c0
      have hne : ∀ g, (Value.slice ah' hs.length ch').ownBlock = some g → g ≠ b := fun g hg e => by
        have h1 : (Value.slice aq0 q.length cq0).ownBlock = some b := (I.out.aqb _ rfl).1
        rcases I.out.at_ g hg with h2 | h2
        · exact HAP.out g h2 (e ▸ h1)
        · have := (World.ownsRow.lt HQ.out b h1).2; omega
      have HNE : Hid (∀ g, (Value.slice ah' hs.length ch').ownBlock = some g → g ≠ b) := hne
      clear hne
      have i0 : decide ((0 : Int) < (((a :: qs).length : Nat) : Int)) = true := by simp
      have i1 : (0 : Int) < (((a :: qs).length : Nat) : Int) := by simp
      have k0 := blk_cell box 0 _ rfl
      have k1 := blk_cell box 1 _ rfl
      have k2 := blk_cell box 2 _ rfl
      have lB := blk_lt box
      have r0 : ∀ g : Grown wr, g.val.cell? ⟨b, off, none⟩ = some (.int .i64 a.1) := fun g => (g.bel.cell (p := ⟨b, off, none⟩) hbw).trans c0
      have r1 : ∀ g : Grown wr, g.val.cell? ⟨b, off + 1, none⟩ = some (.bool a.2) := fun g => (g.bel.cell (p := ⟨b, off + 1, none⟩) hbw).trans c1
      have r2 : ∀ g : Grown wr, g.val.cell? ⟨w.heap.size, 1, none⟩ = some (.slice ah' hs.length ch') := fun g => (g.bel.cell (p := ⟨w.heap.size, 1, none⟩) lB).trans k1
      clear k0 k1 k2 box
      go_upto_region 3 with fail
      cases hm : mayP hs a.2 with
      | false =>
        have HM : Hid (mayB (lineOf hs) a.2 = false) := (mayB_lineOf hs a.2).trans hm
        have HP : Hid (letP hs (a :: qs) = (hs, a :: qs, [])) := letP_no hm
        clear hm
        refine wp_region_grow (by kernel_rfl) (by kernel_rfl) ?_
        repeat (first | go_big_quiet_skip | (go_big_quiet_want; go_big_quiet_op; first | go_big_quiet_on | (apply Exists.intro; refine ⟨fun g => ?_, ?_⟩; (focus (go_at_call 48; refine grown_call (v := .bool false) ((mayHold_any _ _ _ (lineOf hs) _ _ _ rfl (HLH.out.below g.bel)).mono ?_); rintro e w4 ⟨rfl, hbb⟩; exact ⟨by rw [HM.out], hbb⟩)); go_big_quiet_on)))
        refine wpQuiet_nil ?_
        rintro _ ⟨g, rfl⟩
        clear r1 r2
        have hX : Below wr.heap.size wr g.val := g.bel
        have bX := blk_below I.out.box hX
        have rX := blk_below I.out.res hX
        have LX : Hid (LineAt g.val (some ⟨b, off, none⟩) (lineOf (a :: qs))) := I.out.line.below hX
        have HX : Hid (Below wr.heap.size wr g.val) := hX
        clear r0 hX
        generalize g.val = X at bX rX LX HX ⊢
        have HBX : Hid (X.heap[w.heap.size]? = _) := bX
        have HRX : Hid (X.heap[w.heap.size + 1]? = _) := rX
        go_wp2_with fail
        refine (copyAsked_any (some ⟨b, off, none⟩) (qs.length + 1) cq (lineOf (a :: qs)) X rfl (by have h1 := I.out.len; have h2 := HL.out; simp only [List.length_cons] at h1; omega) (fun h => by cases h) LX.out).mono ?_
        rintro e w2 ⟨⟨v2, rfl, ho2⟩, hb2⟩
        obtain ⟨a2, c2, rfl, _⟩ := own_form ho2
        have HO2 : Hid (w2.ownsRow X.heap.size 57 2 (.slice a2 (qs.length + 1) c2) (qs.length + 1) (askList (lineOf (a :: qs)))) := ho2
        have HB2 : Hid (Below X.heap.size X w2) := hb2
        have b2 := blk_below HBX.out hb2
        have r2 := blk_below HRX.out hb2
        have z0 := blk_cell b2 0 _ rfl
        have z1 := blk_cell b2 1 _ rfl
        have z2 := blk_cell b2 2 _ rfl
        have y0 := blk_cell r2 0 _ rfl
        have y1 := blk_cell r2 1 _ rfl
        have y2 := blk_cell r2 2 _ rfl
        have f1 := blk_free b2 2
        have f2 := blk_free r2 0
        have f3 := blk_free r2 1
        have f4 := blk_free r2 2
        have HR2 : Hid (w2.heap[w.heap.size + 1]? = _) := r2
        clear ho2 hb2 bX rX b2 r2
        go_wp2
        obtain ⟨F, hF⟩ : ∃ F, F = (((w2.setCell ⟨w.heap.size, 2, none⟩ (.slice a2 (qs.length + 1) c2)).setCell ⟨w.heap.size + 1, 0, none⟩ (.int .i64 key)).setCell ⟨w.heap.size + 1, 1, none⟩ (.slice ah' hs.length ch')).setCell ⟨w.heap.size + 1, 2, none⟩ (.slice a2 (qs.length + 1) c2) := ⟨_, rfl⟩
        have KF : Kept w2 F (fun b => b = w.heap.size ∨ b = w.heap.size + 1) := by
          rw [hF]
          exact ((((Kept.refl w2 (fun b => b = w.heap.size ∨ b = w.heap.size + 1)).set (a := ⟨w.heap.size, 2, none⟩) (.inl rfl) _).set (a := ⟨w.heap.size + 1, 0, none⟩) (.inr rfl) _).set (a := ⟨w.heap.size + 1, 1, none⟩) (.inr rfl) _).set (a := ⟨w.heap.size + 1, 2, none⟩) (.inr rfl) _
        have rF := heap_setCell_same _ _ 2 _ _ (.slice a2 (qs.length + 1) c2) (heap_setCell_same _ _ 1 _ _ (.slice ah' hs.length ch') (heap_setCell_same _ _ 0 _ _ (.int .i64 key) ((Below.heap_setCell w2 ⟨w.heap.size, 2, none⟩ (.slice a2 (qs.length + 1) c2) (w.heap.size + 1) (by simp)).trans HR2.out)))
        rw [← hF] at rF ⊢
        have z0 := blk_cell rF 0 _ rfl
        have z1 := blk_cell rF 1 _ rfl
        have z2 := blk_cell rF 2 _ rfl
        have hk : Kept w w2 (fun b => (Value.slice ah h.length ch).ownBlock = some b) := I.out.kept.trans ((Kept.of_below HX.out).trans (Kept.of_below HB2.out))
        have hbox : ∀ gq, (Value.slice ah' hs.length ch').ownBlock = some gq → ¬ (gq = w.heap.size ∨ gq = w.heap.size + 1) := fun gq hq => by
          rcases I.out.at_ gq hq with h1 | h1
          · have := (World.ownsRow.lt HH.out gq h1).2; omega
          · omega
        have hsz := HX.out.size
        have hsw := blk_lt I.out.res
        refine bodyPost_ret (v := .tuple #[.agg #[.int .i64 key, .slice ah' hs.length ch', .slice a2 (qs.length + 1) c2], .slice av es.length cv]) (by simp [results, Try.results41, go_sem, z0, z1, z2]) rfl ⟨_, _, _, rfl, ?_, ?_, ?_, ?_, ?_⟩
        · rw [I.out.eq, HP.out]
          exact KF.own (own_below HB2.out (own_below HX.out I.out.held)) hbox
        · rw [I.out.eq, HP.out]
          have h1 := HO2.out
          rw [askList_lineOf] at h1
          exact KF.own (own_base h1 (by have := HBASE.out; omega)) (fun gq hq hc => by have := (World.ownsRow.lt HO2.out gq hq).1; omega)
        · rw [I.out.eq, HP.out, List.append_nil]
          exact KF.own (own_base (own_below HB2.out (own_below HX.out I.out.ents)) (by omega)) (fun gq hq hc => by have := (World.ownsRow.lt I.out.ents gq hq).1; omega)
        · intro b h1 h2
          have h3 := (World.ownsRow.lt HO2.out b h2).1
          have h4 := (World.ownsRow.lt I.out.held b h1).2
          omega
        · exact ⟨KF.os.trans hk.os, KF.tape.trans hk.tape, KF.output.trans hk.output, Nat.le_trans hk.size KF.size, fun k hk1 hk2 => (KF.block k (Nat.lt_of_lt_of_le hk1 hk.size) (by omega)).trans (hk.block k hk1 hk2)⟩
      | true =>
        have HM : Hid (mayB (lineOf hs) a.2 = true) := (mayB_lineOf hs a.2).trans hm
        have HP : Hid (letP hs (a :: qs) = ((letP (insP hs a) qs).1, (letP (insP hs a) qs).2.1, a.1 :: (letP (insP hs a) qs).2.2)) := letP_yes hm
        clear hm
        refine wp_region_grow (by kernel_rfl) (by kernel_rfl) ?_
        repeat (first | go_big_quiet_skip | (go_big_quiet_want; go_big_quiet_op; first | go_big_quiet_on | (apply Exists.intro; refine ⟨fun g => ?_, ?_⟩; (focus (go_at_call 48; refine grown_call (v := .bool true) ((mayHold_any _ _ _ (lineOf hs) _ _ _ rfl (HLH.out.below g.bel)).mono ?_); rintro e w4 ⟨rfl, hbb⟩; exact ⟨by rw [HM.out], hbb⟩)); go_big_quiet_on)))
        refine wpQuiet_nil ?_
        rintro _ ⟨g, rfl⟩
        have hX : Below wr.heap.size wr g.val := g.bel
        have bX := blk_below I.out.box hX
        have rX := blk_below I.out.res hX
        have q0 := r0 g
        have q1 := r1 g
        have HX : Hid (Below wr.heap.size wr g.val) := hX
        clear r0 r1 r2 hX
        generalize g.val = X at bX rX HX q0 q1 ⊢
        have HBX : Hid (X.heap[w.heap.size]? = _) := bX
        have HRX : Hid (X.heap[w.heap.size + 1]? = _) := rX
        have HQX : Hid (X.cell? ⟨b, off, none⟩ = some (.int .i64 a.1)) := q0
        have x1 := blk_cell bX 1 _ rfl
        have HCALL : Hid (∀ Y, Below X.heap.size X Y → Calls Try.prog 49 #[.slice ah' hs.length ch', .agg #[.int .i64 a.1, .bool a.2]] Y fun e w2 => ∃ a2 c2, e = .returned (.slice a2 (hs.length + 1) c2) ∧ AsksIs w2 base (.slice a2 (hs.length + 1) c2) (insP hs a) ∧ (∀ g, (Value.slice a2 (hs.length + 1) c2).ownBlock = some g → (Value.slice ah' hs.length ch').ownBlock = some g ∨ X.heap.size ≤ g) ∧ Kept X w2 (fun b => (Value.slice ah' hs.length ch').ownBlock = some b)) := fun Y hY =>
          (putRising_any ah' hs.length ch' base hs a.1 a.2 Y rfl (by have h1 := I.out.len; have h2 := HL.out; simp only [List.length_cons] at h1; omega) (AsksIs.below (AsksIs.below I.out.held HX.out) hY) (by have := HBASE.out; have := I.out.kept.size; have := HX.out.size; have := hY.size; omega)).mono fun e w2 ⟨v2, h1, h2, h3, h4⟩ => by
            obtain ⟨a2, c2, h5, _⟩ := own_form h2
            rw [insP_length] at h5
            subst h5
            exact ⟨a2, c2, h1, h2, fun g hg => (h4 g hg).imp_right (fun h => Nat.le_trans hY.size h), (Kept.of_below hY).trans h3⟩
        have hbx : ∀ gq, (Value.slice ah' hs.length ch').ownBlock = some gq → ¬ (gq = w.heap.size ∨ gq = w.heap.size + 1) := fun gq hq => by
          rcases I.out.at_ gq hq with h1 | h1
          · have := (World.ownsRow.lt HH.out gq h1).2; omega
          · omega
        have HBB : Hid (∀ gq, (Value.slice ah' hs.length ch').ownBlock = some gq → ¬ (gq = w.heap.size ∨ gq = w.heap.size + 1)) := hbx
        clear hbx bX rX
        go_wp2
        go_region_law (first
          | (go_simp; go_at_call 49; refine Calls.mono (HCALL.out _ (by repeat (first | exact Below.refl _ _ | refine Below.drew ?_))) ?_; rintro e w2 ⟨a2, c2, rfl, ho2, hat2, hk2⟩; have z2 := hk2.blk HBX.out (fun h => HBB.out _ h (.inl rfl)); have y1 := blk_cell z2 1 _ rfl; have yf := blk_free z2 1; dsimp only))
        all_goals
          have hb8 : b < w.heap.size := (World.ownsRow.lt HQ.out b (I.out.aqb _ rfl).1).2
          have hXs : w.heap.size + 2 ≤ X.heap.size := blk_lt HRX.out
          have hset : Kept w2 (w2.setCell ⟨w.heap.size, 1, none⟩ (.slice a2 (hs.length + 1) c2)) (fun b => b = w.heap.size) := (Kept.refl w2 (fun b => b = w.heap.size)).set (a := ⟨w.heap.size, 1, none⟩) rfl _
          have bY := heap_setCell_same _ _ 1 _ _ (.slice a2 (hs.length + 1) c2) z2
          generalize w2.setCell ⟨w.heap.size, 1, none⟩ (.slice a2 (hs.length + 1) c2) = Y at hset bY ⊢
          have rY : Y.heap[w.heap.size + 1]? = some (.cells #[.int .i64 0, .slice none 0 0, .slice none 0 0] 60 (0, 0)) := hset.blk (hk2.blk HRX.out (fun h => HBB.out _ h (.inr rfl))) (by omega)
          have blkb : Y.heap[b]? = wr.heap[b]? := (hset.block b (by have := hk2.size; omega) (by omega)).trans ((hk2.block b (by omega) (fun h => HNE.out b h rfl)).trans (HX.out.block b (by have := I.out.kept.size; omega)))
          have lY : LineAt Y (some ⟨b, off, none⟩) (lineOf (a :: qs)) := lineAt_blk I.out.line blkb
          have oY : AsksIs Y base (.slice a2 (hs.length + 1) c2) (insP hs a) := hset.own ho2 (fun gq hq hc => by
            rcases hat2 gq hq with h1 | h1
            · exact HBB.out gq h1 (.inl hc)
            · omega)
          have atY : ∀ gq, (Value.slice a2 (hs.length + 1) c2).ownBlock = some gq → (Value.slice ah h.length ch).ownBlock = some gq ∨ w.heap.size + 2 ≤ gq := fun gq hq => by
            rcases hat2 gq hq with h1 | h1
            · exact I.out.at_ gq h1
            · exact .inr (by omega)
          have eX := own_below HX.out I.out.ents
          have eY : WaitsIs Y (w.heap.size + 2) (.slice av es.length cv) es := hset.own (hk2.own eX (fun gq hq hc => own_apart eX (own_below HX.out I.out.held) (by decide) gq hq hc)) (fun gq hq hc => by have := (World.ownsRow.lt eX gq hq).1; omega)
          have kx := I.out.kept.trans (Kept.of_below HX.out)
          have kY : Kept w Y (fun b => (Value.slice ah h.length ch).ownBlock = some b) := ⟨(hset.os.trans hk2.os).trans kx.os, (hset.tape.trans hk2.tape).trans kx.tape, (hset.output.trans hk2.output).trans kx.output, Nat.le_trans kx.size (Nat.le_trans hk2.size hset.size), fun k h1 h2 => (hset.block k (by have := kx.size; have := hk2.size; omega) (by omega)).trans ((hk2.block k (by have := kx.size; omega) (fun h3 => by
            rcases I.out.at_ k h3 with h4 | h4
            · exact h2 h4
            · omega)).trans (kx.block k h1 h2))⟩
          have q0Y : Y.cell? ⟨b, off, none⟩ = some (.int .i64 a.1) := (World.cell?_of_block (a := ⟨b, off, none⟩) blkb).trans c0
          have hYs : w.heap.size + 2 ≤ Y.heap.size := blk_lt rY
          have hes : es.length + 1 ≤ 1048576 := by have h1 := I.out.len2; have h2 := HL.out; simp only [List.length_cons] at h1; omega
          have hcq : qs.length + 1 ≤ cq ∧ cq ≤ 9223372036854775807 := ⟨I.out.cap.1, I.out.cap.2.1⟩
          have hq1 : qs.length + 1 ≤ 1048576 := by have h1 := I.out.len2; have h2 := HL.out; simp only [List.length_cons] at h1; omega
          have HY : Hid (LineAt Y (some ⟨b, off, none⟩) (lineOf (a :: qs)) ∧ AsksIs Y base (.slice a2 (hs.length + 1) c2) (insP hs a) ∧ WaitsIs Y (w.heap.size + 2) (.slice av es.length cv) es ∧ Kept w Y (fun b => (Value.slice ah h.length ch).ownBlock = some b)) := ⟨lY, oY, eY, kY⟩
          have HAT : Hid (∀ gq, (Value.slice a2 (hs.length + 1) c2).ownBlock = some gq → (Value.slice ah h.length ch).ownBlock = some gq ∨ w.heap.size + 2 ≤ gq) := atY
          have HBY : Hid (Y.heap[w.heap.size]? = some (.cells #[.int .i64 key, .slice a2 (hs.length + 1) c2, .slice aq0 q.length cq0] 60 (0, 0))) := bY
          have HRY : Hid (Y.heap[w.heap.size + 1]? = some (.cells #[.int .i64 0, .slice none 0 0, .slice none 0 0] 60 (0, 0))) := rY
          clear hset bY rY blkb lY oY atY eX eY kx kY hk2 ho2 hat2 z2 y1 yf
          go_wp2_with (first
            | (at_builtin; refine wpList_append_lies _ (by rfl) (.tmp 26) (.tmp 31) 33 (by rfl) (w.heap.size + 2) 3 j0 (.int .i64 0) 1 8 Try.underlying33 ji jz0 jz1 jz2 rfl (by decide) _ es.length (cellsI es) (by rfl) (HY.out.2.2.1.alloc _) ⟨Y.heap.size, 0, none⟩ 1 1 [.int .i64 a.1] (by rfl) (by rfl) (World.news_of_block (heap_alloc_new Y _)) (by intro u hu; simp at hu; rcases hu with rfl; rfl) (by decide) (by unfold maxLen; omega) (by omega) (by simp; omega) (Y.heap.size + 1) (by simp) ?_; intro g5 c5 w5 ho5 hg5 hat5 hlt5; have HG5 : Hid (Kept Y w5 (fun b => (Value.slice av es.length cv).ownBlock = some b)) := (Kept.of_below (push (Below.refl _ _) _)).trans (kept_of_grown hg5); have HB5 : Hid (b < w.heap.size) := hb8)
            | (go_at_call 54; refine (behindFirst_any b off (qs.length + 1) cq (lineOf (a :: qs)) w5 rfl (by omega) hq1 hcq.1 hcq.2 (lineAt_blk HY.out.1 (HG5.out.block b (by omega) (fun h => by have := (World.ownsRow.lt HY.out.2.2.1 b h).1; have := HB5.out; omega)))).mono ?_; rintro e w6 ⟨off', rfl, rfl, hl6⟩))
          go_roundg qs.length
          case measure => simp
          case rel =>
            have hno : ∀ k, k < w.heap.size + 2 → ¬ (Value.slice av es.length cv).ownBlock = some k := fun k h1 h2 => by have := (World.ownsRow.lt HY.out.2.2.1 k h2).1; omega
            refine ⟨insP hs a, qs, es ++ [a.1], .slice a2 (hs.length + 1) c2, some ⟨b, off', none⟩, qs.length, rfl, rfl, ?_⟩
            rw [tail_lineOf] at hl6
            exact ⟨by rw [I.out.eq, HP.out, List.append_assoc]; rfl, by have h1 := I.out.len; rw [insP_length]; simp only [List.length_cons] at h1; omega, by have h1 := I.out.len2; rw [List.length_append]; simp only [List.length_cons, List.length_nil] at h1 ⊢; omega,
              HG5.out.own HY.out.2.1 (fun gq h1 h2 => own_apart HY.out.2.2.1 HY.out.2.1 (by decide) gq h2 h1), HAT.out, hl6, fun x e => by cases e; exact ⟨(I.out.aqb _ rfl).1, rfl⟩, ⟨Nat.le_refl _, by omega, fun h => by cases h⟩,
              by unfold WaitsIs; rw [List.length_append, cellsI_snoc]; exact ho5, HG5.out.blk HBY.out (hno _ (by omega)), HG5.out.blk HRY.out (hno _ (by omega)),
              ⟨HG5.out.os.trans HY.out.2.2.2.os, HG5.out.tape.trans HY.out.2.2.2.tape, HG5.out.output.trans HY.out.2.2.2.output, Nat.le_trans HY.out.2.2.2.size HG5.out.size, fun k h1 h2 => (HG5.out.block k (by have := HY.out.2.2.2.size; omega) (hno k (by omega))).trans (HY.out.2.2.2.block k h1 h2)⟩⟩

end Go.Proofs.Ytdmkpflphjemoaa

namespace Go.Proofs.Ytdmkpflphjemoaa
open Go.RowKit

theorem own_box {w : World} {base e size n B t : Nat} {v : Value} {xs : List Value} {cs : Array Value} {fr : Nat × Nat} (h : w.ownsRow base e size v n xs) (hb : w.heap[B]? = some (.cells cs t fr)) (hne : t ≠ e) : v.ownBlock ≠ some B := by
  intro he
  rcases h.2 with ⟨rfl, _⟩ | ⟨g, c, r, rfl, _, k1, _⟩
  · simp [Value.ownBlock] at he
  · simp only [Value.ownBlock, Option.some.injEq] at he
    subst he
    rw [k1] at hb
    simp at hb
    exact hne hb.2.1.symm
/-- Where the inner loop stands. -/
structure SpInv (wr : World) (base B : Nat) (key : Int) (l1 l2 hs qs : List (Int × Bool)) (es0 es ks : List Int) (vh vq v7 : Value) (wi : World) : Prop where
  eq : letP l1 l2 = ((letP hs qs).1, (letP hs qs).2.1, es ++ (letP hs qs).2.2)
  len : hs.length + qs.length = l1.length + l2.length
  held : LineV wi (B + 1) vh (lineOf hs)
  queue : LineV wi (B + 1) vq (lineOf qs)
  apart : ∀ b, vh.ownBlock = some b → vq.ownBlock ≠ some b
  ents : WaitsIs wi base v7 ks
  got : Strict ks ∧ ∀ y, y ∈ ks ↔ y ∈ es0 ++ es
  box : wi.heap[B]? = some (.cells #[.int .i64 key, vh, vq] 60 (0, 0))
  bel : Below wr.heap.size wr wi

set_option maxHeartbeats 6400000 in
set_option maxRecDepth 100000 in
theorem l2Leave_any (ao : Option Addr) (N c : Nat) (K : Nat → Int) (H Q : Nat → Line) (x : Int) (w : World) (hg : GoodL N K H Q) (hs : ShortTo N H Q 1048576) (hz : LocksAt w ao N K H Q) :
    Calls Try.prog 43 #[.slice ao N c, .int .i64 x] w fun e w' => (∃ v1 v2 ks, e = .returned (.tuple #[v1, v2]) ∧ LocksL w' w.heap.size v1 (leaveTo K H Q x N) ∧ WaitsIs w' w.heap.size v2 ks ∧ Hid (Strict ks ∧ ∀ y, y ∈ ks ↔ y ∈ entTo H Q x N)) ∧ Below w.heap.size w w' := by
  obtain ⟨p0, pi, pz0, pz1, pz2⟩ := info_parts Try.infoAsked
  obtain ⟨j0, ji, jz0, jz1, jz2⟩ := info_parts Try.infoLock
  have HS : Hid (ShortTo N H Q 1048576) := hs
  have HZ : Hid (LocksAt w ao N K H Q) := hz
  have HGL : Hid (GoodL N K H Q) := hg
  have hN := hg.1
  clear hs hz hg
  go_enter Try.func43, Try.ntmps43
  go_wp2
  go_loopg [6, 7, 12] N (fun g v6 v7 i wr => ∃ (k : Nat) (hv qv : Nat → Value) (ks : List Int), k ≤ N ∧ g = N - k ∧ i = .int .i64 k ∧ LocksOwn wr w.heap.size (leaveTo K H Q x k).length v6 (keyF (leaveTo K H Q x k)) (heldF (leaveTo K H Q x k)) (queueF (leaveTo K H Q x k)) hv qv ∧ WaitsIs wr w.heap.size v7 ks ∧ (Strict ks ∧ ∀ y, y ∈ ks ↔ y ∈ entTo H Q x k) ∧ Below w.heap.size w wr)
  case atStart => exact ⟨0, fun _ => .slice none 0 0, fun _ => .slice none 0 0, [], Nat.zero_le _, rfl, rfl, LocksOwn.nil _ _ _ _ _ _ _, WaitsIs.nil _ _, ⟨List.Pairwise.nil, fun y => Iff.rfl⟩, Below.refl _ _⟩
  case round =>
    obtain ⟨wo, hwo⟩ : ∃ wo, wo = wr := ⟨_, rfl⟩
    subst hwo
    obtain ⟨k, hv, qv, ks0, hk, rfl, rfl, hL, hE, hKS, hbel⟩ := hrel
    obtain ⟨av, cv, rfl, _⟩ := own_form hL.row
    obtain ⟨ae, ce, rfl, _⟩ := own_form hE
    have HLN := leaveTo_length K H Q x k
    generalize hls : leaveTo K H Q x k = ls at *
    have HLS : Hid (leaveTo K H Q x k = ls) := hls
    have HKS0 : Hid (Strict ks0 ∧ ∀ y, y ∈ ks0 ↔ y ∈ entTo H Q x k) := hKS
    clear hls hKS
    by_cases hlt : k < N
    · obtain ⟨b, off, ha, hc, qa, qc, rfl, h0, h1, h2, h3, h4, h5, h6⟩ := HZ.out k hlt
      have hb := World.block_lt_of_cell? w _ h0
      have d0 := (hbel.cell (p := ⟨b, off + k * 3, none⟩) hb).trans h0
      have d1 := (hbel.cell (p := ⟨b, off + k * 3 + 1, none⟩) hb).trans h1
      have d2 := (hbel.cell (p := ⟨b, off + k * 3 + 2, none⟩) hb).trans h2
      have s1 := (HS.out k hlt).1
      have s2 := (HS.out k hlt).2
      have HH : Hid (LineAt w ha (H k)) := h3
      have HQ : Hid (LineAt w qa (Q k)) := h4
      have HL : Hid (LocksOwn wo w.heap.size ls.length (.slice av ls.length cv) (keyF ls) (heldF ls) (queueF ls) hv qv) := hL
      have HE : Hid (WaitsIs wo w.heap.size (.slice ae ks0.length ce) ks0) := hE
      have HB : Hid (Below w.heap.size w wo) := hbel
      clear h0 h1 h2 h3 h4 h5 h6 hL hE
      have hp : Below wo.heap.size wo (wo.alloc (.cells #[.int .i64 (K k), .slice ha (H k).n hc, .slice qa (Q k).n qc] 60)) := push (Below.refl _ _) _
      have bX := heap_alloc_new wo (.cells #[.int .i64 (K k), .slice ha (H k).n hc, .slice qa (Q k).n qc] 60)
      go_upto_region 6 with fail
      generalize wo.alloc (.cells #[.int .i64 (K k), .slice ha (H k).n hc, .slice qa (Q k).n qc] 60) = X at hp bX ⊢
      obtain ⟨l1, hl1⟩ : ∃ l1, l1 = lessTo (H k) x (H k).n := ⟨_, rfl⟩
      obtain ⟨l2, hl2⟩ : ∃ l2, l2 = lessTo (Q k) x (Q k).n := ⟨_, rfl⟩
      have HLT : Hid (leftOf H Q x k = letP l1 l2) := by show leftOf H Q x k = letP l1 l2; rw [hl1, hl2]; rfl
      have hll : l1.length + l2.length ≤ 12 := by
        have h1 := good_lines ((goodL_iff N K H Q).1 HGL.out) hlt
        have h2 := lessTo_length (H k) x (H k).n
        have h3 := lessTo_length (Q k) x (Q k).n
        rw [hl1, hl2]
        omega
      have HL1 : Hid (l1 = lessTo (H k) x (H k).n) := hl1
      have HL2 : Hid (l2 = lessTo (Q k) x (Q k).n) := hl2
      clear hl1 hl2
      have HB1 : Hid (X.heap[wo.heap.size]? = _) := bX
      have HX1 : Hid (Below wo.heap.size wo X) := hp
      have x0 := blk_cell bX 0 _ rfl
      have x1 := blk_cell bX 1 _ rfl
      have x2 := blk_cell bX 2 _ rfl
      clear d0 d1 d2 bX hp hbel
      go_wp2_with fail
      refine (l2Without_any ha (H k).n hc (H k) x X rfl s1 (HH.out.below (after HB.out HX1.out))).mono ?_
      rintro e w4 ⟨⟨v4, rfl, ho4⟩, hb4⟩
      rw [← HL1.out] at ho4
      obtain ⟨a4, c4, rfl, _⟩ := own_form ho4
      have z4 := blk_below HB1.out hb4
      have k4 := (Kept.refl w4 (fun b => b = wo.heap.size)).set (a := ⟨wo.heap.size, 1, none⟩) rfl (.slice a4 l1.length c4)
      have b4 := heap_setCell_same _ _ 1 _ _ (.slice a4 l1.length c4) z4
      have y1 := blk_cell z4 1 _ rfl
      have y2 := blk_cell z4 2 _ rfl
      have f1 := blk_free z4 1
      clear x0 x1 x2
      go_upto_region 7 with fail
      generalize w4.setCell ⟨wo.heap.size, 1, none⟩ (.slice a4 l1.length c4) = X2 at k4 b4 ⊢
      have o4 : AsksIs X2 (wo.heap.size + 1) (.slice a4 l1.length c4) l1 := own_base (k4.own ho4 (fun g e1 e2 => by have := (World.ownsRow.lt ho4 g e1).1; have := blk_lt HB1.out; omega)) (blk_lt HB1.out)
      have h2X : Below wo.heap.size wo X2 := Kept.below (after HX1.out hb4) (Nat.le_trans HX1.out.size hb4.size) k4 (fun b e => by have e : b = wo.heap.size := e; omega)
      have HX2 : Hid (Below wo.heap.size wo X2) := h2X
      have HB2 : Hid (X2.heap[wo.heap.size]? = some (.cells #[.int .i64 (K k), .slice a4 l1.length c4, .slice qa (Q k).n qc] 60 (0, 0))) := b4
      have HO4 : Hid (AsksIs X2 (wo.heap.size + 1) (.slice a4 l1.length c4) l1) := o4
      have t0 := blk_cell HB2.out 0 _ rfl
      have t1 := blk_cell HB2.out 1 _ rfl
      have t2 := blk_cell HB2.out 2 _ rfl
      clear k4 b4 y1 y2 f1 o4 h2X ho4 hb4 z4
      go_wp2_with fail
      refine (l2Without_any qa (Q k).n qc (Q k) x X2 rfl s2 (HQ.out.below (after HB.out HX2.out))).mono ?_
      rintro e w5 ⟨⟨v5, rfl, ho5⟩, hb5⟩
      rw [← HL2.out] at ho5
      obtain ⟨a5, c5, rfl, _⟩ := own_form ho5
      have z5 := blk_below HB2.out hb5
      have k5 := (Kept.refl w5 (fun b => b = wo.heap.size)).set (a := ⟨wo.heap.size, 2, none⟩) rfl (.slice a5 l2.length c5)
      have b5 := heap_setCell_same _ _ 2 _ _ (.slice a5 l2.length c5) z5
      have y1 := blk_cell z5 1 _ rfl
      have y2 := blk_cell z5 2 _ rfl
      have f1 := blk_free z5 2
      clear t0 t1 t2
      go_wp2
      generalize w5.setCell ⟨wo.heap.size, 2, none⟩ (.slice a5 l2.length c5) = X3 at k5 b5 ⊢
      have hs5 : wo.heap.size + 1 ≤ X2.heap.size := blk_lt HB2.out
      have o4 : AsksIs X3 (wo.heap.size + 1) (.slice a4 l1.length c4) l1 := k5.own (AsksIs.below HO4.out hb5) (fun g e1 e2 => by have := (World.ownsRow.lt HO4.out g e1).1; omega)
      have o5 : AsksIs X3 (wo.heap.size + 1) (.slice a5 l2.length c5) l2 := own_base (k5.own ho5 (fun g e1 e2 => by have := (World.ownsRow.lt ho5 g e1).1; omega)) hs5
      have h3X : Below wo.heap.size wo X3 := Kept.below (after HX2.out hb5) (Nat.le_trans HX2.out.size hb5.size) k5 (fun b e => by have e : b = wo.heap.size := e; omega)
      have HI0 : Hid (SpInv wo w.heap.size wo.heap.size (K k) l1 l2 l1 l2 (entTo H Q x k) [] ks0 (.slice a4 l1.length c4) (.slice a5 l2.length c5) (.slice ae ks0.length ce) X3) :=
        ⟨rfl, rfl, LineV.of_own rfl (by rw [askList_lineOf]; exact o4), LineV.of_own rfl (by rw [askList_lineOf]; exact o5), (fun b e1 e2 => by have := (World.ownsRow.lt HO4.out b e1).2; have := (World.ownsRow.lt ho5 b e2).1; omega), own_below h3X HE.out, ⟨HKS0.out.1, by rw [List.append_nil]; exact HKS0.out.2⟩, b5, h3X⟩
      clear k5 b5 y1 y2 f1 o4 o5 h3X ho5 hb5 z5 hs5
      go_loopg [7] l2.length (fun g v7 wi => ∃ hs qs es ks vh vq, g = qs.length ∧ SpInv wo w.heap.size wo.heap.size (K k) l1 l2 hs qs (entTo H Q x k) es ks vh vq v7 wi)
      case atStart => exact ⟨l1, l2, [], ks0, _, _, rfl, HI0.out⟩
      case round =>
        clear HI0
        obtain ⟨wi, hwi⟩ : ∃ wi, wi = wr := ⟨_, rfl⟩
        subst hwi
        obtain ⟨hs, qs, es, ks, vh, vq, rfl, hI⟩ := hrel
        obtain ⟨ah, ch, eh, sh, lh⟩ := hI.held.at_
        have eh : vh = .slice ah hs.length ch := eh
        subst eh
        obtain ⟨aq, cq, eq, sq, lq⟩ := hI.queue.at_
        have eq : vq = .slice aq qs.length cq := eq
        subst eq
        obtain ⟨ag, cg, rfl, _⟩ := own_form hI.ents
        have I : Hid (SpInv wo w.heap.size wo.heap.size (K k) l1 l2 hs qs (entTo H Q x k) es ks (.slice ah hs.length ch) (.slice aq qs.length cq) (.slice ag ks.length cg) wi) := hI
        have HLH : Hid (LineAt wi ah (lineOf hs)) := lh
        have HSH : Hid (SliceOk ah hs.length ch) := sh
        have box := hI.box
        have lB := blk_lt box
        have k1 := blk_cell box 1 _ rfl
        have k2 := blk_cell box 2 _ rfl
        have r1 : ∀ g : Grown wi, g.val.cell? ⟨wo.heap.size, 1, none⟩ = some (.slice ah hs.length ch) := fun g => (g.bel.cell (p := ⟨wo.heap.size, 1, none⟩) lB).trans k1
        have r0 : ∀ g : Grown wi, g.val.cell? ⟨wo.heap.size, 2, none⟩ = some (.slice aq qs.length cq) := fun g => (g.bel.cell (p := ⟨wo.heap.size, 2, none⟩) lB).trans k2
        clear hI lh k1 k2 sh box
        cases qs with
        | nil =>
          have d0 : decide ((0 : Int) < ((([] : List (Int × Bool)).length : Nat) : Int)) = false := rfl
          clear lq sq
          simp only [List.length_nil] at *
          go_upto_region 8 with fail
          refine wp_region_grow (by kernel_rfl) (by kernel_rfl) ?_
          repeat (first | go_big_quiet_skip | (go_big_quiet_want; go_big_quiet_op; go_big_quiet_on))
          refine wpQuiet_nil ?_
          rintro _ ⟨g, rfl⟩
          clear r1
          have hX : Below wi.heap.size wi g.val := g.bel
          have HX : Hid (Below wi.heap.size wi g.val) := hX
          have bX := blk_below I.out.box hX
          clear hX r0
          generalize g.val = Y at bX HX ⊢
          have HBY : Hid (Below wo.heap.size wo Y) := after I.out.bel HX.out
          have z0 := blk_cell bX 0 _ rfl
          have z1 := blk_cell bX 1 _ rfl
          have z2 := blk_cell bX 2 _ rfl
          have HLF : Hid (leftOf H Q x k = (hs, [], es)) := by
            show leftOf H Q x k = (hs, [], es)
            rw [HLT.out, I.out.eq, show letP hs [] = (hs, [], []) from rfl, List.append_nil]
          have HEN2 : Hid (entTo H Q x (k + 1) = entTo H Q x k ++ es) := by show entTo H Q x k ++ (leftOf H Q x k).2.2 = entTo H Q x k ++ es; rw [HLF.out]
          have HW7 : Hid (WaitsIs Y w.heap.size (.slice ag ks.length cg) ks) := own_below HX.out I.out.ents
          have HLY : Hid (LocksOwn Y w.heap.size ls.length (.slice av ls.length cv) (keyF ls) (heldF ls) (queueF ls) hv qv) := HL.out.below HBY.out
          have HV1 : Hid (LineV Y (wo.heap.size + 1) (.slice ah hs.length ch) (lineOf hs)) := I.out.held.below HX.out
          have HV2 : Hid (LineV Y (wo.heap.size + 1) (.slice aq 0 cq) (lineOf [])) := I.out.queue.below HX.out
          have HAP : Hid (∀ bb, (Value.slice ah hs.length ch).ownBlock = some bb → (Value.slice aq 0 cq).ownBlock ≠ some bb) := I.out.apart
          have HBW : Hid (Below w.heap.size w Y) := after HB.out HBY.out
          have HKS : Hid (Strict ks ∧ ∀ y, y ∈ ks ↔ y ∈ entTo H Q x k ++ es) := I.out.got
          clear bX
          by_cases hm : hs.length = 0
          · have dm : decide ((0 : Int) < (hs.length : Int)) = false := by rw [hm]; rfl
            have HLV : Hid (leaveTo K H Q x (k + 1) = ls) := by
              show leaveTo K H Q x (k + 1) = ls
              rw [leaveTo_no (by rw [HLF.out]; exact hm)]
              exact HLS.out
            go_wp2
            go_roundg (N - (k + 1))
            case measure => omega
            case rel => exact ⟨k + 1, hv, qv, ks, by omega, rfl, by go_num, by rw [HLV.out]; exact HLY.out, HW7.out, ⟨HKS.out.1, by rw [HEN2.out]; exact HKS.out.2⟩, HBW.out⟩
          · have dm : decide ((0 : Int) < (hs.length : Int)) = true := by simp; omega
            have HLV : Hid (leaveTo K H Q x (k + 1) = ls ++ [(K k, hs, [])]) := by
              show leaveTo K H Q x (k + 1) = ls ++ [(K k, hs, [])]
              rw [leaveTo_yes (by rw [HLF.out]; exact hm), HLS.out, HLF.out]
            have hwY : w.heap.size ≤ Y.heap.size := HBW.out.size
            have HLA : Hid (LocksOwn (Y.alloc (.cells #[.int .i64 (K k), .slice ah hs.length ch, .slice aq 0 cq] 60)) w.heap.size ls.length (.slice av ls.length cv) (keyF ls) (heldF ls) (queueF ls) hv qv) := HLY.out.below (push (Below.refl _ _) _)
            go_wp2_with (first | (at_builtin; refine wpList_append_lies _ (by rfl) (.tmp 64) (.tmp 66) 23 (by rfl) w.heap.size 60 j0 (.agg #[.int .i64 0, .slice none 0 0, .slice none 0 0]) 3 56 Try.underlying23 ji jz0 jz1 jz2 rfl (by decide) (.slice av ls.length cv) ls.length _ (by rfl) HLA.out.row ⟨Y.heap.size, 0, none⟩ 1 1 [.int .i64 (K k), .slice ah hs.length ch, .slice aq 0 cq] (by rfl) (by rfl) (World.news_of_block (cs := #[.int .i64 (K k), .slice ah hs.length ch, .slice aq 0 cq]) (t := 60) (fr := (0, 0)) (heap_alloc_new Y _)) (by intro u hu; simp at hu; rcases hu with rfl | rfl | rfl <;> rfl) (by decide) (by unfold maxLen; omega) (by omega) (by simp; omega) (Y.heap.size + 1) (by simp) ?_; intro g6 cap6 w10 ho10 hg10 hat10 hlt10))
            go_roundg (N - (k + 1))
            case measure => omega
            case rel =>
              have hS := HLA.out.snocL (lim := wo.heap.size + 1) (h := hs) (q := []) (fun b e => by have := (HL.out.lim b e).2; omega) (HV1.out.below (push (Below.refl _ _) _)).asks (HV2.out.below (push (Below.refl _ _) _)).asks HAP.out (by have := HB.out.size; omega) hg10 ho10
              refine ⟨k + 1, _, _, ks, by omega, rfl, by go_num, by rw [HLV.out]; exact hS, ?_, ⟨HKS.out.1, by rw [HEN2.out]; exact HKS.out.2⟩, ?_⟩
              · exact (kept_by hg10).own (own_below (push (Below.refl _ _) _) HW7.out) (fun g e1 e2 => own_apart HLA.out.row (own_below (push (Below.refl _ _) _) HW7.out) (by decide) g e2 e1)
              · exact (push HBW.out _).grown hg10 (by simp; omega) (fun j hj => (HLA.out.row.lt j hj).1)
        | cons a qs =>
          obtain ⟨b, off, rfl, c0, c1⟩ := lq 0 (by simp [lineOf])
          have c0 : wi.cell? ⟨b, off, none⟩ = some (.int .i64 a.1) := c0
          have c1 : wi.cell? ⟨b, off + 1, none⟩ = some (.bool a.2) := c1
          have hbw := World.block_lt_of_cell? wi _ c0
          have HLQ : Hid (LineAt wi (some ⟨b, off, none⟩) (lineOf (a :: qs))) := lq
          have HSQ : Hid (SliceOk (some ⟨b, off, none⟩) (qs.length + 1) cq) := sq
          have i0 : decide ((0 : Int) < (((a :: qs).length : Nat) : Int)) = true := by simp
          have i1 : (0 : Int) < (((a :: qs).length : Nat) : Int) := by simp
          have r2 : ∀ g : Grown wi, g.val.cell? ⟨b, off, none⟩ = some (.int .i64 a.1) := fun g => (g.bel.cell (p := ⟨b, off, none⟩) hbw).trans c0
          have r3 : ∀ g : Grown wi, g.val.cell? ⟨b, off + 1, none⟩ = some (.bool a.2) := fun g => (g.bel.cell (p := ⟨b, off + 1, none⟩) hbw).trans c1
          clear lq sq c0 c1
          go_upto_region 8 with fail
          cases hm : mayP hs a.2 with
          | false =>
            have HM : Hid (mayB (lineOf hs) a.2 = false) := (mayB_lineOf hs a.2).trans hm
            have HP : Hid (letP hs (a :: qs) = (hs, a :: qs, [])) := letP_no hm
            clear hm
            refine wp_region_grow (by kernel_rfl) (by kernel_rfl) ?_
            repeat (first | go_big_quiet_skip | (go_big_quiet_want; go_big_quiet_op; first | go_big_quiet_on | (apply Exists.intro; refine ⟨fun g => ?_, ?_⟩; (focus (go_at_call 32; refine grown_call (v := .bool false) ((l2May_any _ _ _ (lineOf hs) _ _ _ rfl (HLH.out.below g.bel)).mono ?_); rintro e w4 ⟨rfl, hbb⟩; exact ⟨by rw [HM.out], hbb⟩)); go_big_quiet_on)))
            refine wpQuiet_nil ?_
            rintro _ ⟨g, rfl⟩
            clear r1 r2 r3
            have hX : Below wi.heap.size wi g.val := g.bel
            have HX : Hid (Below wi.heap.size wi g.val) := hX
            have bX := blk_below I.out.box hX
            clear hX r0
            generalize g.val = Y at bX HX ⊢
            have HBY : Hid (Below wo.heap.size wo Y) := after I.out.bel HX.out
            have z0 := blk_cell bX 0 _ rfl
            have z1 := blk_cell bX 1 _ rfl
            have z2 := blk_cell bX 2 _ rfl
            have HLF : Hid (leftOf H Q x k = (hs, (a :: qs), es)) := by
              show leftOf H Q x k = (hs, (a :: qs), es)
              rw [HLT.out, I.out.eq, HP.out, List.append_nil]
            have HEN2 : Hid (entTo H Q x (k + 1) = entTo H Q x k ++ es) := by show entTo H Q x k ++ (leftOf H Q x k).2.2 = entTo H Q x k ++ es; rw [HLF.out]
            have HW7 : Hid (WaitsIs Y w.heap.size (.slice ag ks.length cg) ks) := own_below HX.out I.out.ents
            have HLY : Hid (LocksOwn Y w.heap.size ls.length (.slice av ls.length cv) (keyF ls) (heldF ls) (queueF ls) hv qv) := HL.out.below HBY.out
            have HV1 : Hid (LineV Y (wo.heap.size + 1) (.slice ah hs.length ch) (lineOf hs)) := I.out.held.below HX.out
            have HV2 : Hid (LineV Y (wo.heap.size + 1) (.slice (some ⟨b, off, none⟩) (qs.length + 1) cq) (lineOf (a :: qs))) := I.out.queue.below HX.out
            have HAP : Hid (∀ bb, (Value.slice ah hs.length ch).ownBlock = some bb → (Value.slice (some ⟨b, off, none⟩) (qs.length + 1) cq).ownBlock ≠ some bb) := I.out.apart
            have HBW : Hid (Below w.heap.size w Y) := after HB.out HBY.out
            have HKS : Hid (Strict ks ∧ ∀ y, y ∈ ks ↔ y ∈ entTo H Q x k ++ es) := I.out.got
            clear bX
            by_cases hm : hs.length = 0
            · have dm : decide ((0 : Int) < (hs.length : Int)) = false := by rw [hm]; rfl
              have HLV : Hid (leaveTo K H Q x (k + 1) = ls) := by
                show leaveTo K H Q x (k + 1) = ls
                rw [leaveTo_no (by rw [HLF.out]; exact hm)]
                exact HLS.out
              go_wp2
              go_roundg (N - (k + 1))
              case measure => omega
              case rel => exact ⟨k + 1, hv, qv, ks, by omega, rfl, by go_num, by rw [HLV.out]; exact HLY.out, HW7.out, ⟨HKS.out.1, by rw [HEN2.out]; exact HKS.out.2⟩, HBW.out⟩
            · have dm : decide ((0 : Int) < (hs.length : Int)) = true := by simp; omega
              have HLV : Hid (leaveTo K H Q x (k + 1) = ls ++ [(K k, hs, (a :: qs))]) := by
                show leaveTo K H Q x (k + 1) = ls ++ [(K k, hs, (a :: qs))]
                rw [leaveTo_yes (by rw [HLF.out]; exact hm), HLS.out, HLF.out]
              have hwY : w.heap.size ≤ Y.heap.size := HBW.out.size
              have HLA : Hid (LocksOwn (Y.alloc (.cells #[.int .i64 (K k), .slice ah hs.length ch, .slice (some ⟨b, off, none⟩) (qs.length + 1) cq] 60)) w.heap.size ls.length (.slice av ls.length cv) (keyF ls) (heldF ls) (queueF ls) hv qv) := HLY.out.below (push (Below.refl _ _) _)
              go_wp2_with (first | (at_builtin; refine wpList_append_lies _ (by rfl) (.tmp 64) (.tmp 66) 23 (by rfl) w.heap.size 60 j0 (.agg #[.int .i64 0, .slice none 0 0, .slice none 0 0]) 3 56 Try.underlying23 ji jz0 jz1 jz2 rfl (by decide) (.slice av ls.length cv) ls.length _ (by rfl) HLA.out.row ⟨Y.heap.size, 0, none⟩ 1 1 [.int .i64 (K k), .slice ah hs.length ch, .slice (some ⟨b, off, none⟩) (qs.length + 1) cq] (by rfl) (by rfl) (World.news_of_block (cs := #[.int .i64 (K k), .slice ah hs.length ch, .slice (some ⟨b, off, none⟩) (qs.length + 1) cq]) (t := 60) (fr := (0, 0)) (heap_alloc_new Y _)) (by intro u hu; simp at hu; rcases hu with rfl | rfl | rfl <;> rfl) (by decide) (by unfold maxLen; omega) (by omega) (by simp; omega) (Y.heap.size + 1) (by simp) ?_; intro g6 cap6 w10 ho10 hg10 hat10 hlt10))
              go_roundg (N - (k + 1))
              case measure => omega
              case rel =>
                have hS := HLA.out.snocL (lim := wo.heap.size + 1) (h := hs) (q := (a :: qs)) (fun b e => by have := (HL.out.lim b e).2; omega) (HV1.out.below (push (Below.refl _ _) _)).asks (HV2.out.below (push (Below.refl _ _) _)).asks HAP.out (by have := HB.out.size; omega) hg10 ho10
                refine ⟨k + 1, _, _, ks, by omega, rfl, by go_num, by rw [HLV.out]; exact hS, ?_, ⟨HKS.out.1, by rw [HEN2.out]; exact HKS.out.2⟩, ?_⟩
                · exact (kept_by hg10).own (own_below (push (Below.refl _ _) _) HW7.out) (fun g e1 e2 => own_apart HLA.out.row (own_below (push (Below.refl _ _) _) HW7.out) (by decide) g e2 e1)
                · exact (push HBW.out _).grown hg10 (by simp; omega) (fun j hj => (HLA.out.row.lt j hj).1)
          | true =>
            have HM : Hid (mayB (lineOf hs) a.2 = true) := (mayB_lineOf hs a.2).trans hm
            have HP : Hid (letP hs (a :: qs) = ((letP (insP hs a) qs).1, (letP (insP hs a) qs).2.1, a.1 :: (letP (insP hs a) qs).2.2)) := letP_yes hm
            clear hm
            refine wp_region_grow (by kernel_rfl) (by kernel_rfl) ?_
            repeat (first | go_big_quiet_skip | (go_big_quiet_want; go_big_quiet_op; first | go_big_quiet_on | (apply Exists.intro; refine ⟨fun g => ?_, ?_⟩; (focus (go_at_call 32; refine grown_call (v := .bool true) ((l2May_any _ _ _ (lineOf hs) _ _ _ rfl (HLH.out.below g.bel)).mono ?_); rintro e w4 ⟨rfl, hbb⟩; exact ⟨by rw [HM.out], hbb⟩)); go_big_quiet_on)))
            refine wpQuiet_nil ?_
            rintro _ ⟨g, rfl⟩
            have hX : Below wi.heap.size wi g.val := g.bel
            have bX := blk_below I.out.box hX
            have q0 := r2 g
            have q1 := r3 g
            have HX : Hid (Below wi.heap.size wi g.val) := hX
            clear r0 r1 r2 r3 hX
            generalize g.val = X at bX HX q0 q1 ⊢
            have HBX : Hid (X.heap[wo.heap.size]? = some (.cells #[.int .i64 (K k), .slice ah hs.length ch, .slice (some ⟨b, off, none⟩) (qs.length + 1) cq] 60 (0, 0))) := bX
            have HLX : Hid (LineAt X (some ⟨b, off, none⟩) (lineOf (a :: qs))) := HLQ.out.below HX.out
            have x1 := blk_cell bX 1 _ rfl
            have x2 := blk_cell bX 2 _ rfl
            have hsl : hs.length + 1 ≤ 1048576 := by have h1 := I.out.len; simp only [List.length_cons] at h1; omega
            have HCALL : Hid (∀ Y, Below X.heap.size X Y → Calls Try.prog 33 #[.slice ah hs.length ch, .agg #[.int .i64 a.1, .bool a.2]] Y fun e w2 => ∃ a2 c2, e = .returned (.slice a2 (hs.length + 1) c2) ∧ w2.ownsRow X.heap.size 57 2 (.slice a2 (hs.length + 1) c2) (hs.length + 1) (cellsA (insP hs a)) ∧ Below X.heap.size X w2) := fun Y hY =>
              (l2Hold_any ah hs.length ch (lineOf hs) a.1 a.2 Y rfl (by omega) HSH.out.1 HSH.out.2.1 HSH.out.2.2 ((HLH.out.below HX.out).below hY)).mono fun e w2 ⟨⟨v2, p, h1, h2, h3⟩, h4⟩ => by
                rw [insA_list h2] at h3
                obtain ⟨a2, c2, h5, _⟩ := own_form h3
                subst h5
                exact ⟨a2, c2, h1, own_base h3 hY.size, after hY h4⟩
            clear bX
            go_wp2
            go_region_law (first
              | (go_simp; go_at_call 33; refine Calls.mono (HCALL.out _ (by repeat (first | exact Below.refl _ _ | refine Below.drew ?_))) ?_; rintro e w2 ⟨a2, c2, rfl, ho2, hb2⟩; have z2 := blk_below HBX.out hb2; have y1 := blk_cell z2 1 _ rfl; have yf := blk_free z2 1; dsimp only))
            all_goals
              have hset : Kept w2 (w2.setCell ⟨wo.heap.size, 1, none⟩ (.slice a2 (hs.length + 1) c2)) (fun b => b = wo.heap.size) := (Kept.refl w2 (fun b => b = wo.heap.size)).set (a := ⟨wo.heap.size, 1, none⟩) rfl _
              have bY := heap_setCell_same _ _ 1 _ _ (.slice a2 (hs.length + 1) c2) z2
              generalize w2.setCell ⟨wo.heap.size, 1, none⟩ (.slice a2 (hs.length + 1) c2) = Y at hset bY ⊢
              have HBY : Hid (Y.heap[wo.heap.size]? = some (.cells #[.int .i64 (K k), .slice a2 (hs.length + 1) c2, .slice (some ⟨b, off, none⟩) (qs.length + 1) cq] 60 (0, 0))) := bY
              have hbB : b ≠ wo.heap.size := by
                intro e; exact own_box (v := .slice (some ⟨b, off, none⟩) (qs.length + 1) cq) I.out.queue I.out.box (by decide) (by rw [← e]; rfl)
              have hbX : b < X.heap.size := Nat.lt_of_lt_of_le hbw HX.out.size
              have hoX : wo.heap.size < X.heap.size := blk_lt HBX.out
              have blkb : Y.heap[b]? = X.heap[b]? := (hset.block b (Nat.lt_of_lt_of_le hbX hb2.size) hbB).trans (hb2.block b hbX)
              have HLY : Hid (LineAt Y (some ⟨b, off, none⟩) (lineOf (a :: qs))) := lineAt_blk HLX.out blkb
              have hYb : Below wo.heap.size wo Y := Kept.below (after (after I.out.bel HX.out) hb2) (Nat.le_trans (Nat.le_trans I.out.bel.size HX.out.size) hb2.size) hset (fun b e => by have e : b = wo.heap.size := e; omega)
              have oY := hset.own ho2 (fun g e1 e2 => by have := (World.ownsRow.lt ho2 g e1).1; omega)
              have wX := own_below hb2 (own_below HX.out I.out.ents)
              have wY : WaitsIs Y w.heap.size (.slice ag ks.length cg) ks := hset.own wX (fun g e1 e2 => own_box wX z2 (by decide) (e2 ▸ e1))
              have HY : Hid (Below wo.heap.size wo Y ∧ Y.ownsRow X.heap.size 57 2 (.slice a2 (hs.length + 1) c2) (hs.length + 1) (cellsA (insP hs a)) ∧ WaitsIs Y w.heap.size (.slice ag ks.length cg) ks) := ⟨hYb, oY, wY⟩
              have t0 : Y.cell? ⟨b, off, none⟩ = some (.int .i64 a.1) := (World.cell?_of_block (a := ⟨b, off, none⟩) blkb).trans q0
              have t1 := blk_cell HBY.out 1 _ rfl
              have t2 := blk_cell HBY.out 2 _ rfl
              have hpre : es <+: (leftOf H Q x k).2.2 := by rw [HLT.out, I.out.eq]; exact List.prefix_append _ _
              have hk12 : ks.length ≤ 12 := got_few HGL.out hlt I.out.got.1 hpre I.out.got.2
              have hwY : w.heap.size ≤ Y.heap.size := Nat.le_trans HB.out.size hYb.size
              clear hset bY blkb oY wX wY hYb x1 x2 q0 q1 z2 y1 yf ho2 hb2 hpre
              go_wp2_with fail
              refine (l1Put_any ag ks.length cg w.heap.size ks a.1 Y hk12 I.out.got.1 HY.out.2.2 hwY).mono ?_
              rintro e w3 ⟨⟨v3, ks', rfl, hw3, hks⟩, hb3⟩
              obtain ⟨a3, c3, rfl, _⟩ := own_form hw3
              have HB3 : Hid (w3.heap[wo.heap.size]? = some (.cells #[.int .i64 (K k), .slice a2 (hs.length + 1) c2, .slice (some ⟨b, off, none⟩) (qs.length + 1) cq] 60 (0, 0))) := blk_below HBY.out hb3
              have HW3 : Hid (WaitsIs w3 w.heap.size (.slice a3 ks'.length c3) ks' ∧ (Strict ks' ∧ ∀ y, y ∈ ks' ↔ y ∈ ks ∨ y = a.1)) := ⟨hw3, hks.out⟩
              have HX3 : Hid (Below Y.heap.size Y w3) := hb3
              have hlen : qs.length ≤ 12 := by have h1 := I.out.len; simp only [List.length_cons] at h1; omega
              have HE : Hid ((w3.alloc (.cells #[] 57)).ownsRow w3.heap.size 57 2 (.slice (some ⟨w3.heap.size, 0, none⟩) 0 0) 0 []) := ⟨rfl, .inr ⟨w3.heap.size, 0, #[], rfl, Nat.le_refl _, heap_alloc_new w3 _, Nat.le_refl _, Nat.zero_le _, rfl, rfl⟩⟩
              have HT : Hid (LineAt (w3.alloc (.cells #[] 57)) (some ⟨b, off + 2, none⟩) (lineOf qs)) := by
                have h1 := lineAt_tail ((HLY.out.below hb3).below (push (Below.refl _ w3) (.cells #[] 57)))
                rw [tail_lineOf] at h1
                exact h1
              have HLL : Hid ((cellsA qs).length = qs.length * 2) := cellsA_length qs
              have HTC : Hid (∀ ad, some (⟨b, off + 2, none⟩ : Addr) = some ad → ∀ j u, (cellsA qs)[j]? = some u → (w3.alloc (.cells #[] 57)).cell? (ad.add j) = some u) := by
                have h1 := line_cells HT.out
                rw [askList_lineOf] at h1
                exact h1
              have g1 := blk_cell (blk_alloc HB3.out (.cells #[] 57)) 1 _ rfl
              have g2 := blk_cell (blk_alloc HB3.out (.cells #[] 57)) 2 _ rfl
              have gc : (qs.length : Int) + 1 ≤ (cq : Int) := by have := HSQ.out.1; omega
              have gd : (1 : Int) ≤ (qs.length : Int) + 1 := by omega
              have ge : cq ≤ 9223372036854775807 := HSQ.out.2.1
              have hw3s : w3.heap.size ≤ (w3.alloc (.cells #[] 57)).heap.size := (by simp)
              clear t0 t1 t2 hw3 hks hb3
              have FIN : Hid (∀ w5 a5 c5, w5.ownsRow w3.heap.size 57 2 (.slice a5 qs.length c5) qs.length (cellsA qs) → (w3.alloc (.cells #[] 57)).grownBy w5 (some w3.heap.size) → SpInv wo w.heap.size wo.heap.size (K k) l1 l2 (insP hs a) qs (entTo H Q x k) (es ++ [a.1]) ks' (.slice a2 (hs.length + 1) c2) (.slice a5 qs.length c5) (.slice a3 ks'.length c3) (w5.setCell ⟨wo.heap.size, 2, none⟩ (.slice a5 qs.length c5))) := fun w5 a5 c5 ho5 hg5 => by
                have k35 : Kept w3 w5 (fun _ => False) := ⟨hg5.os, hg5.tape, hg5.output, Nat.le_trans (by simp) hg5.size, fun j hj _ => (hg5.block j (by simp; omega) (fun e => by cases e; omega)).trans ((push (Below.refl w3.heap.size w3) _).block j hj)⟩
                have b5 := k35.blk HB3.out (fun h => h)
                have kF := (Kept.refl w5 (fun b => b = wo.heap.size)).set (a := ⟨wo.heap.size, 2, none⟩) rfl (.slice a5 qs.length c5)
                have o5 := k35.own (own_below HX3.out HY.out.2.1) (fun _ _ h => h)
                have w5' := k35.own HW3.out.1 (fun _ _ h => h)
                have hbl : Below wo.heap.size wo w5 := Kept.below (after HY.out.1 HX3.out) (Nat.le_trans HY.out.1.size HX3.out.size) k35 (fun _ h => h.elim)
                refine ⟨by rw [I.out.eq, HP.out, List.append_assoc]; rfl, by have h1 := I.out.len; rw [insP_length]; simp only [List.length_cons] at h1; omega, ?_, ?_, (fun b e1 e2 => by have := (World.ownsRow.lt HY.out.2.1 b e1).2; have := (World.ownsRow.lt ho5 b e2).1; have := HX3.out.size; omega), ?_, ⟨HW3.out.2.1, fun y => ?_⟩, heap_setCell_same _ _ 2 _ _ (.slice a5 qs.length c5) b5, ?_⟩
                · exact LineV.of_own (show (lineOf (insP hs a)).n = hs.length + 1 from insP_length hs a) (by rw [askList_lineOf]; exact own_base (kF.own o5 (fun g e1 e2 => own_box o5 b5 (by decide) (e2 ▸ e1))) hoX)
                · exact LineV.of_own rfl (by rw [askList_lineOf]; exact own_base (kF.own ho5 (fun g e1 e2 => own_box ho5 b5 (by decide) (e2 ▸ e1))) (blk_lt HB3.out))
                · exact kF.own w5' (fun g e1 e2 => own_box w5' b5 (by decide) (e2 ▸ e1))
                · rw [HW3.out.2.2 y, I.out.got.2 y, ← List.append_assoc, List.mem_append (t := [a.1]), List.mem_singleton]
                · exact Kept.below hbl (Nat.le_trans HY.out.1.size (Nat.le_trans HX3.out.size k35.size)) kF (fun b e => by have e : b = wo.heap.size := e; omega)
              have BF : Hid (∀ w5, (w3.alloc (.cells #[] 57)).grownBy w5 (some w3.heap.size) → w5.heap[wo.heap.size]? = some (.cells #[.int .i64 (K k), .slice a2 (hs.length + 1) c2, .slice (some ⟨b, off, none⟩) (qs.length + 1) cq] 60 (0, 0))) := fun w5 hg5 => (hg5.block _ (by have := blk_lt HB3.out; simp; omega) (fun e => by have := blk_lt HB3.out; simp only [Option.some.injEq] at e; omega)).trans (blk_alloc HB3.out _)
              by_cases hc1 : cq = 1
              · subst hc1
                obtain rfl : qs = [] := List.eq_nil_of_length_eq_zero (by have := HSQ.out.1; omega)
                go_wp2_with (first | (at_builtin; refine wpList_append_any _ (by rfl) (.tmp 54) (.tmp 57) 58 (by rfl) w3.heap.size 57 p0 (.agg #[.int .i64 0, .bool false]) 2 16 Try.underlying58 pi pz0 pz1 pz2 rfl (by decide) _ 0 [] (by rfl) HE.out _ 0 _ [] (by rfl) (fun h => (by cases h)) (by rfl) (fun _ _ j u h => (by simp at h)) (by intro u hu; simp at hu) (by unfold maxLen; omega) (by omega) hw3s ?_; intro v5 w5 ho5 hg5; obtain ⟨a5, c5, rfl, _⟩ := own_form ho5; have b5 := BF.out w5 hg5; have f5 := blk_cell b5 2 _ rfl; have fr5 := blk_free b5 2))
                go_roundg 0
                case measure => simp
                case rel => exact ⟨insP hs a, [], es ++ [a.1], ks', _, _, rfl, FIN.out w5 a5 c5 ho5 hg5⟩
              · go_wp2_with (first | (at_builtin; refine wpList_append_any _ (by rfl) (.tmp 54) (.tmp 57) 58 (by rfl) w3.heap.size 57 p0 (.agg #[.int .i64 0, .bool false]) 2 16 Try.underlying58 pi pz0 pz1 pz2 rfl (by decide) _ 0 [] (by rfl) HE.out (some ⟨b, off + 2, none⟩) qs.length (cq - 1) (cellsA qs) (by rfl) (fun h => (by cases h)) HLL.out HTC.out (cellsA_one qs) (by unfold maxLen; omega) (by omega) hw3s ?_; intro v5 w5 ho5 hg5; rw [Nat.zero_add, List.nil_append] at ho5; obtain ⟨a5, c5, rfl, _⟩ := own_form ho5; have b5 := BF.out w5 hg5; have f5 := blk_cell b5 2 _ rfl; have fr5 := blk_free b5 2))
                go_roundg qs.length
                case measure => simp
                case rel => exact ⟨insP hs a, qs, es ++ [a.1], ks', _, _, rfl, FIN.out w5 a5 c5 ho5 hg5⟩
    · obtain rfl : k = N := by omega
      go_wp2
      exact bodyPost_ret (v := .tuple #[.slice av ls.length cv, .slice ae ks0.length ce]) (by simp [results, Try.results43, go_sem]) rfl ⟨⟨_, _, ks0, rfl, by rw [HLS.out]; exact ⟨hv, qv, hL⟩, hE, HKS0.out⟩, hbel⟩

end Go.Proofs.Ytdmkpflphjemoaa
