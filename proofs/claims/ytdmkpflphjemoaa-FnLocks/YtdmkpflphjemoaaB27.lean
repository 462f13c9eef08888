/-
  OWN TEXT: PutK, CopyL.
-/
import Derived.Deep.RegionWith
import Derived.Deep.RegionHeld3
import Derived.Deep.DeepCutAuto
import Derived.Deep.RegionLawGrows
import Derived.Deep.AppendLies
import Derived.Test.YtdmkpflphjemoaaB26
import Derived.Test.YtdmkpflphjemoaaB20
import Derived.Test.YtdmkpflphjemoaaB17
import Derived.Test.YtdmkpflphjemoaaB10
import Derived.Test.YtdmkpflphjemoaaB06
import Derived.Test.YtdmkpflphjemoaaB13
namespace Go.Proofs.Ytdmkpflphjemoaa
open Go.RowKit

set_option maxHeartbeats 6400000 in
set_option maxRecDepth 100000 in
theorem putAsked_any (ao : Option Addr) (N c base : Nat) (K : Nat → Int) (H Q : Nat → Line) (hs qs : Nat → Value) (x key : Int) (s : Bool) (w : World) (hN : N ≤ 60) (hsh : ShortTo N H Q 12) (hk : KeysUp N K) (h2 : isKeyI key) (L : LocksOwn w base N (.slice ao N c) K H Q hs qs) (hb : base ≤ w.heap.size) :
    Calls Try.prog 25 #[.slice ao N c, .int .i64 key, .agg #[.int .i64 x, .bool s]] w fun e w' => (∃ v ok ls p, e = .returned (.tuple #[v, .bool ok]) ∧ LocksL w' base v ls ∧ Hid (IsAt N K key p ∧ PutIs N K H Q x key s p ls ok)) ∧ Below base w w' := by
  have HL : Hid (LocksOwn w base N (.slice ao N c) K H Q hs qs) := L
  have HK : Hid (KeysUp N K) := hk
  have HS : Hid (ShortTo N H Q 12) := hsh
  have HB : Hid (base ≤ w.heap.size) := hb
  have HKE : Hid (0 ≤ key ∧ key ≤ 100000) := h2
  clear L hk hsh hb h2
  have hb0 : Below w.heap.size w (w.alloc (.cells #[.int .i64 x, .bool s] 57)) := push (Below.refl _ _) _
  have bA := heap_alloc_new w (.cells #[.int .i64 x, .bool s] 57)
  go_enter Try.func25, Try.ntmps25
  go_wp2_with fail
  generalize w.alloc (.cells #[.int .i64 x, .bool s] 57) = X at hb0 bA ⊢
  refine (findKey_any ao N c K H Q key X hN HK.out HKE.out (HL.out.below hb0).at_).mono ?_
  rintro e w2 ⟨⟨p, rfl, hp⟩, hb2⟩
  have HP : Hid (IsAt N K key p) := hp.out
  have h12 := after hb0 hb2
  have HB2 : Hid (Below w.heap.size w w2) := h12
  have b2 := blk_below bA hb2
  have HBX : Hid (w2.heap[w.heap.size]? = some (.cells #[.int .i64 x, .bool s] 57 (0, 0))) := b2
  have HL2 : Hid (LocksOwn w2 base N (.slice ao N c) K H Q hs qs) := HL.out.below h12
  have y0 := blk_cell b2 0 _ rfl
  have y1 := blk_cell b2 1 _ rfl
  have hlw : w.heap.size < w2.heap.size := blk_lt b2
  clear hp hb0 hb2 bA b2 h12
  by_cases hf : p < N ∧ K p = key
  · have ef : decide (p < N ∧ K p = key) = true := decide_eq_true hf
    rw [ef]
    have HF : Hid (p < N ∧ K p = key) := hf
    have hpN := hf.1
    clear ef hf
    obtain ⟨g, rfl, hg1, hg2⟩ := own_addr HL2.out.row (by omega)
    have c0 := own_cell HL2.out.row (p * 3) (by omega) rfl
    have c1 := own_cell HL2.out.row (p * 3 + 1) (by omega) rfl
    have c2 := own_cell HL2.out.row (p * 3 + 2) (by omega) rfl
    rw [lockCell_0] at c0
    rw [lockCell_1] at c1
    rw [lockCell_2] at c2
    have oh := HL2.out.held p hpN
    have oq := HL2.out.queue p hpN
    obtain ⟨ha, hc, eh, h1, _, h3⟩ := own_form oh
    obtain ⟨qa, qc, eq, q1, q2, q3⟩ := own_form oq
    have EH : Hid (hs p = .slice ha (H p).n hc) := eh
    have EQ : Hid (qs p = .slice qa (Q p).n qc) := eq
    rw [eh] at c1 oh
    rw [eq] at c2 oq
    have HLH : Hid (LineAt w2 ha (H p)) := line_of_own oh
    have HLQ : Hid (LineAt w2 qa (Q p) ∧ SliceOk qa (Q p).n qc) := ⟨line_of_own oq, q1, by unfold maxLen at q2; omega, q3⟩
    have HOH : Hid (AsksIs w2 base (.slice ha (H p).n hc) (asksTo (H p) (H p).n)) := by
      show w2.ownsRow base 57 2 (.slice ha (H p).n hc) (asksTo (H p) (H p).n).length (cellsA (asksTo (H p) (H p).n))
      rw [asksTo_length, ← askList_asks]
      exact oh
    have s1 := (HS.out p hpN).1
    have s2 := (HS.out p hpN).2
    clear oh oq eh eq h1 h3 q1 q2 q3
    have j1 : (p : Int) < (N : Int) := by omega
    have j2 : (0 : Int) ≤ (p : Int) := by omega
    have r1 : ∀ g' : Grown w2, g'.val.cell? ⟨g, p * 3 + 1, none⟩ = some (.slice ha (H p).n hc) := fun g' => (g'.bel.cell (p := ⟨g, p * 3 + 1, none⟩) hg2).trans c1
    have r2 : ∀ g' : Grown w2, g'.val.cell? ⟨g, p * 3 + 2, none⟩ = some (.slice qa (Q p).n qc) := fun g' => (g'.bel.cell (p := ⟨g, p * 3 + 2, none⟩) hg2).trans c2
    have r3 : ∀ g' : Grown w2, g'.val.cell? ⟨w.heap.size, 0, none⟩ = some (.int .i64 x) := fun g' => (g'.bel.cell (p := ⟨w.heap.size, 0, none⟩) hlw).trans y0
    have r4 : ∀ g' : Grown w2, g'.val.cell? ⟨w.heap.size, 1, none⟩ = some (.bool s) := fun g' => (g'.bel.cell (p := ⟨w.heap.size, 1, none⟩) hlw).trans y1
    clear c0 c1 c2
    go_upto_region 5 with fail
    by_cases hput : (Q p).n = 0 ∧ mayB (H p) s = true
    · have HPU : Hid ((Q p).n = 0 ∧ mayB (H p) s = true) := hput
      have hq0 := hput.1
      have HM : Hid (mayB (H p) s = true) := hput.2
      clear hput
      have d0 : (((Q p).n : Int) == 0) = true := by rw [hq0]; rfl
      refine wp_region_grow (by kernel_rfl) (by kernel_rfl) ?_
      repeat (first | go_big_quiet_skip | (go_big_quiet_want; go_big_quiet_op; first | go_big_quiet_on | (apply Exists.intro; refine ⟨fun g' => ?_, ?_⟩; (focus (go_at_call 48; refine grown_call (v := .bool true) ((mayHold_any _ _ _ (H p) _ _ _ rfl (HLH.out.below g'.bel)).mono ?_); rintro e w4 ⟨rfl, hbb⟩; exact ⟨by rw [HM.out], hbb⟩)); go_big_quiet_on)))
      refine wpQuiet_nil ?_
      rintro _ ⟨g', rfl⟩
      have hX : Below w2.heap.size w2 g'.val := g'.bel
      have x1 := r1 g'
      have x3 := r3 g'
      have x4 := r4 g'
      have HX : Hid (Below w2.heap.size w2 g'.val) := hX
      clear r1 r2 r3 r4 hX y0 y1
      generalize g'.val = Y at HX x1 x3 x4 ⊢
      have HLY : Hid (LocksOwn Y base N (.slice (some ⟨g, 0, none⟩) N c) K H Q hs qs) := HL2.out.below HX.out
      have hgY : g < Y.heap.size := Nat.lt_of_lt_of_le hg2 HX.out.size
      have HCALL : Hid (∀ Z, Below Y.heap.size Y Z → Calls Try.prog 49 #[.slice ha (H p).n hc, .agg #[.int .i64 x, .bool s]] Z fun e w3 => ∃ a3 c3, e = .returned (.slice a3 ((H p).n + 1) c3) ∧ AsksIs w3 base (.slice a3 ((H p).n + 1) c3) (insP (asksTo (H p) (H p).n) (x, s)) ∧ (∀ b, (Value.slice a3 ((H p).n + 1) c3).ownBlock = some b → (Value.slice ha (H p).n hc).ownBlock = some b ∨ Y.heap.size ≤ b) ∧ Kept Y w3 (fun b => (Value.slice ha (H p).n hc).ownBlock = some b)) := fun Z hZ =>
        (putRising_any ha (H p).n hc base (asksTo (H p) (H p).n) x s Z (asksTo_length _ _) (by omega) (AsksIs.below (AsksIs.below HOH.out HX.out) hZ) (by have := HB.out; have := HX.out.size; have := hZ.size; omega)).mono fun e w3 ⟨v3, h1, h2, h3, h4⟩ => by
          obtain ⟨a3, c3, h5, _⟩ := own_form h2
          rw [insP_length, asksTo_length] at h5
          subst h5
          exact ⟨a3, c3, h1, h2, fun b hb => (h4 b hb).imp_right (fun h => Nat.le_trans hZ.size h), (Kept.of_below hZ).trans h3⟩
      have HNG : Hid (∀ b, (Value.slice ha (H p).n hc).ownBlock = some b → b ≠ g) := fun b h1 h2 => own_apart HL2.out.row (HL2.out.held p hpN) (by decide) g rfl (by rw [EH.out]; exact h2 ▸ h1)
      go_wp2
      go_region_law (first
        | (go_simp; go_at_call 49; (with_reducible refine Calls.mono (HCALL.out _ ?_) ?_); (focus (repeat (first | exact Below.refl _ _ | refine Below.drew ?_))); rintro e w3 ⟨a3, c3, rfl, ho3, hat3, hk3⟩; have z3 := (hk3.own HLY.out.row (fun b h1 h2 => by cases h1; exact HNG.out g h2 rfl)); have t1 := own_cell z3 (p * 3 + 1) (by omega) rfl; rw [lockCell_1, EH.out] at t1; have tf : w3.frozen? ⟨g, p * 3 + 1, none⟩ = false := (by obtain ⟨_, cur, hcur⟩ : ∃ (_ : Unit) (cur : Array Value), w3.heap[g]? = some (.cells cur 60 (0, 0)) := (by rcases z3.2 with ⟨h', _⟩ | ⟨g', cap', cur, h', _, hg', _⟩; simp at h'; simp only [Value.slice.injEq, Option.some.injEq, Addr.mk.injEq, and_true, true_and] at h'; obtain ⟨rfl, rfl⟩ := h'; exact ⟨(), cur, hg'⟩); exact blk_free hcur _); dsimp only))
      all_goals
        have hk4 : Kept Y w3 (fun b => (hs p).ownBlock = some b) := by rw [EH.out]; exact hk3
        have hF := HLY.out.putHeld (l := lineOf (insP (asksTo (H p) (H p).n) (x, s))) (v2 := .slice a3 ((H p).n + 1) c3) hpN hk4 (by
          have h1 := ho3
          unfold AsksIs at h1
          rw [← askList_lineOf] at h1
          exact h1) (by rw [EH.out]; exact hat3)
        have hbF : Below base w (w3.setCell ⟨g, p * 3 + 1, none⟩ (.slice a3 ((H p).n + 1) c3)) := by
          have hb1 : Below base w Y := (after HB2.out HX.out).mono HB.out
          have hb3 : Below base w w3 := Kept.below hb1 (by have := HB.out; have := HB2.out.size; have := HX.out.size; omega) hk3 (fun b e => ((World.ownsRow.lt HOH.out b e).1))
          exact Kept.below hb3 (by have := HB.out; have := HB2.out.size; have := HX.out.size; have := hk3.size; omega) ((Kept.refl w3 (fun b => b = g)).set (a := ⟨g, p * 3 + 1, none⟩) rfl _) (fun b e => by have e : b = g := e; omega)
        clear hk3 hk4 hat3 ho3 z3 t1 tf
        go_wp2
        exact bodyPost_ret (v := .tuple #[.slice (some ⟨g, 0, none⟩) N c, .bool true]) (by simp [results, Try.results25, go_sem]) rfl ⟨⟨_, true, _, p, rfl, hF.told, ⟨HP.out, .held HF.out HPU.out.1 HPU.out.2⟩⟩, hbF⟩
    · have HPU : Hid (¬ ((Q p).n = 0 ∧ mayB (H p) s = true)) := hput
      by_cases hq0 : (Q p).n = 0
      · have HM : Hid (mayB (H p) s = false) := by
          cases hm : mayB (H p) s with
          | false => rfl
          | true => exact absurd ⟨hq0, hm⟩ hput
        clear hput
        have d0 : (((Q p).n : Int) == 0) = true := by rw [hq0]; rfl
        refine wp_region_grow (by kernel_rfl) (by kernel_rfl) ?_
        repeat (first | go_big_quiet_skip | (go_big_quiet_want; go_big_quiet_op; first | go_big_quiet_on | (apply Exists.intro; refine ⟨fun g' => ?_, ?_⟩; (focus (go_at_call 48; refine grown_call (v := .bool false) ((mayHold_any _ _ _ (H p) _ _ _ rfl (HLH.out.below g'.bel)).mono ?_); rintro e w4 ⟨rfl, hbb⟩; exact ⟨by rw [HM.out], hbb⟩)); go_big_quiet_on)))
        refine wpQuiet_nil ?_
        rintro _ ⟨g', rfl⟩
        clear d0 hq0
        have hX : Below w2.heap.size w2 g'.val := g'.bel
        have x2 := r2 g'
        have x3 := r3 g'
        have x4 := r4 g'
        have HX : Hid (Below w2.heap.size w2 g'.val) := hX
        clear r1 r2 r3 r4 hX y0 y1
        generalize g'.val = Y at HX x2 x3 x4 ⊢
        have HLY : Hid (LocksOwn Y base N (.slice (some ⟨g, 0, none⟩) N c) K H Q hs qs) := HL2.out.below HX.out
        have hgY : g < Y.heap.size := Nat.lt_of_lt_of_le hg2 HX.out.size
        have HCALL : Hid (∀ Z, Below Y.heap.size Y Z → Calls Try.prog 50 #[.slice qa (Q p).n qc, .agg #[.int .i64 x, .bool s]] Z fun e w3 => ∃ a3 c3, e = .returned (.slice a3 ((Q p).n + 1) c3) ∧ w3.ownsRow Y.heap.size 57 2 (.slice a3 ((Q p).n + 1) c3) ((Q p).n + 1) (askList (lineOf (asksTo (Q p) (Q p).n ++ [(x, s)]))) ∧ Below Y.heap.size Y w3) := fun Z hZ =>
          (queueWith_any qa (Q p).n qc (Q p) x s Z rfl (by omega) HLQ.out.2 ((HLQ.out.1.below HX.out).below hZ)).mono fun e w3 ⟨⟨v3, h1, h2⟩, h3⟩ => by
            obtain ⟨a3, c3, h5, _⟩ := own_form h2
            subst h5
            refine ⟨a3, c3, h1, ?_, after hZ h3⟩
            rw [askList_lineOf, cellsA_append, ← askList_asks]
            exact own_base h2 hZ.size
        go_wp2
        go_region_law (first
          | (go_simp; go_at_call 50; (with_reducible refine Calls.mono (HCALL.out _ ?_) ?_); (focus (repeat (first | exact Below.refl _ _ | refine Below.drew ?_))); rintro e w3 ⟨a3, c3, rfl, ho3, hb3⟩; have z3 := own_below hb3 HLY.out.row; have t1 := own_cell z3 (p * 3 + 2) (by omega) rfl; rw [lockCell_2, EQ.out] at t1; have tf : w3.frozen? ⟨g, p * 3 + 2, none⟩ = false := (by obtain ⟨_, cur, hcur⟩ : ∃ (_ : Unit) (cur : Array Value), w3.heap[g]? = some (.cells cur 60 (0, 0)) := (by rcases z3.2 with ⟨h', _⟩ | ⟨g', cap', cur, h', _, hg', _⟩; simp at h'; simp only [Value.slice.injEq, Option.some.injEq, Addr.mk.injEq, and_true, true_and] at h'; obtain ⟨rfl, rfl⟩ := h'; exact ⟨(), cur, hg'⟩); exact blk_free hcur _); dsimp only))
        all_goals
          have hF := HLY.out.putQueue (p := p) (l := lineOf (asksTo (Q p) (Q p).n ++ [(x, s)])) (v2 := .slice a3 ((Q p).n + 1) c3) hb3 (by
            have e : (lineOf (asksTo (Q p) (Q p).n ++ [(x, s)])).n = (Q p).n + 1 := by show (asksTo (Q p) (Q p).n ++ [(x, s)]).length = _; rw [List.length_append, asksTo_length]; rfl
            rw [e]
            exact ho3) (by have := HB.out; have := HB2.out.size; have := HX.out.size; omega)
          have hbF : Below base w (w3.setCell ⟨g, p * 3 + 2, none⟩ (.slice a3 ((Q p).n + 1) c3)) := by
            have hb4 : Below base w w3 := (after (after HB2.out HX.out) hb3).mono HB.out
            exact Kept.below hb4 (by have := HB.out; have := HB2.out.size; have := HX.out.size; have := hb3.size; omega) ((Kept.refl w3 (fun b => b = g)).set (a := ⟨g, p * 3 + 2, none⟩) rfl _) (fun b e => by have e : b = g := e; omega)
          clear hb3 ho3 z3 t1 tf
          go_wp2
          exact bodyPost_ret (v := .tuple #[.slice (some ⟨g, 0, none⟩) N c, .bool false]) (by simp [results, Try.results25, go_sem]) rfl ⟨⟨_, false, _, p, rfl, hF.told, ⟨HP.out, .queue HF.out HPU.out⟩⟩, hbF⟩
      · clear hput
        have d0 : (((Q p).n : Int) == 0) = false := by simpa using (show ¬ ((Q p).n : Int) = 0 by omega)
        refine wp_region_grow (by kernel_rfl) (by kernel_rfl) ?_
        repeat (first | go_big_quiet_skip | (go_big_quiet_want; go_big_quiet_op; go_big_quiet_on))
        refine wpQuiet_nil ?_
        rintro _ ⟨g', rfl⟩
        clear d0 hq0
        have hX : Below w2.heap.size w2 g'.val := g'.bel
        have x2 := r2 g'
        have x3 := r3 g'
        have x4 := r4 g'
        have HX : Hid (Below w2.heap.size w2 g'.val) := hX
        clear r1 r2 r3 r4 hX y0 y1
        generalize g'.val = Y at HX x2 x3 x4 ⊢
        have HLY : Hid (LocksOwn Y base N (.slice (some ⟨g, 0, none⟩) N c) K H Q hs qs) := HL2.out.below HX.out
        have hgY : g < Y.heap.size := Nat.lt_of_lt_of_le hg2 HX.out.size
        have HCALL : Hid (∀ Z, Below Y.heap.size Y Z → Calls Try.prog 50 #[.slice qa (Q p).n qc, .agg #[.int .i64 x, .bool s]] Z fun e w3 => ∃ a3 c3, e = .returned (.slice a3 ((Q p).n + 1) c3) ∧ w3.ownsRow Y.heap.size 57 2 (.slice a3 ((Q p).n + 1) c3) ((Q p).n + 1) (askList (lineOf (asksTo (Q p) (Q p).n ++ [(x, s)]))) ∧ Below Y.heap.size Y w3) := fun Z hZ =>
          (queueWith_any qa (Q p).n qc (Q p) x s Z rfl (by omega) HLQ.out.2 ((HLQ.out.1.below HX.out).below hZ)).mono fun e w3 ⟨⟨v3, h1, h2⟩, h3⟩ => by
            obtain ⟨a3, c3, h5, _⟩ := own_form h2
            subst h5
            refine ⟨a3, c3, h1, ?_, after hZ h3⟩
            rw [askList_lineOf, cellsA_append, ← askList_asks]
            exact own_base h2 hZ.size
        go_wp2
        go_region_law (first
          | (go_simp; go_at_call 50; (with_reducible refine Calls.mono (HCALL.out _ ?_) ?_); (focus (repeat (first | exact Below.refl _ _ | refine Below.drew ?_))); rintro e w3 ⟨a3, c3, rfl, ho3, hb3⟩; have z3 := own_below hb3 HLY.out.row; have t1 := own_cell z3 (p * 3 + 2) (by omega) rfl; rw [lockCell_2, EQ.out] at t1; have tf : w3.frozen? ⟨g, p * 3 + 2, none⟩ = false := (by obtain ⟨_, cur, hcur⟩ : ∃ (_ : Unit) (cur : Array Value), w3.heap[g]? = some (.cells cur 60 (0, 0)) := (by rcases z3.2 with ⟨h', _⟩ | ⟨g', cap', cur, h', _, hg', _⟩; simp at h'; simp only [Value.slice.injEq, Option.some.injEq, Addr.mk.injEq, and_true, true_and] at h'; obtain ⟨rfl, rfl⟩ := h'; exact ⟨(), cur, hg'⟩); exact blk_free hcur _); dsimp only))
        all_goals
          have hF := HLY.out.putQueue (p := p) (l := lineOf (asksTo (Q p) (Q p).n ++ [(x, s)])) (v2 := .slice a3 ((Q p).n + 1) c3) hb3 (by
            have e : (lineOf (asksTo (Q p) (Q p).n ++ [(x, s)])).n = (Q p).n + 1 := by show (asksTo (Q p) (Q p).n ++ [(x, s)]).length = _; rw [List.length_append, asksTo_length]; rfl
            rw [e]
            exact ho3) (by have := HB.out; have := HB2.out.size; have := HX.out.size; omega)
          have hbF : Below base w (w3.setCell ⟨g, p * 3 + 2, none⟩ (.slice a3 ((Q p).n + 1) c3)) := by
            have hb4 : Below base w w3 := (after (after HB2.out HX.out) hb3).mono HB.out
            exact Kept.below hb4 (by have := HB.out; have := HB2.out.size; have := HX.out.size; have := hb3.size; omega) ((Kept.refl w3 (fun b => b = g)).set (a := ⟨g, p * 3 + 2, none⟩) rfl _) (fun b e => by have e : b = g := e; omega)
          clear hb3 ho3 z3 t1 tf
          go_wp2
          exact bodyPost_ret (v := .tuple #[.slice (some ⟨g, 0, none⟩) N c, .bool false]) (by simp [results, Try.results25, go_sem]) rfl ⟨⟨_, false, _, p, rfl, hF.told, ⟨HP.out, .queue HF.out HPU.out⟩⟩, hbF⟩
  · have ef : decide (p < N ∧ K p = key) = false := decide_eq_false hf
    rw [ef]
    have HF : Hid (¬ (p < N ∧ K p = key)) := hf
    clear ef hf
    obtain ⟨A, hA⟩ : ∃ A : Obj, A = .cells #[.int .i64 x, .bool s] 57 := ⟨_, rfl⟩
    obtain ⟨B, hB⟩ : ∃ B : Obj, B = .cells #[.int .i64 key, .slice (some ⟨w2.heap.size, 0, none⟩) 1 1, .slice none 0 0] 60 := ⟨_, rfl⟩
    have hY : Below w2.heap.size w2 ((w2.alloc A).alloc B) := push (push (Below.refl _ _) _) _
    have oA : ((w2.alloc A).alloc B).ownsRow w2.heap.size 57 2 (.slice (some ⟨w2.heap.size, 0, none⟩) 1 1) 1 (askList (lineOf [(x, s)])) := by
      rw [askList_lineOf]
      exact ⟨rfl, .inr ⟨w2.heap.size, 1, #[.int .i64 x, .bool s], rfl, Nat.le_refl _, by rw [← show A = .cells #[.int .i64 x, .bool s] 57 from hA]; exact blk_alloc (heap_alloc_new w2 A) B, Nat.le_refl _, by unfold maxLen; omega, rfl, rfl⟩⟩
    have vB : ((w2.alloc A).alloc B).heap[w2.heap.size + 1]? = some (.cells #[.int .i64 key, .slice (some ⟨w2.heap.size, 0, none⟩) 1 1, .slice none 0 0] 60 (0, 0)) := by
      have h1 := new_at2 w2 A B
      rw [hB] at h1 ⊢
      exact h1
    have HY : Hid (Below w2.heap.size w2 ((w2.alloc A).alloc B) ∧ ((w2.alloc A).alloc B).ownsRow w2.heap.size 57 2 (.slice (some ⟨w2.heap.size, 0, none⟩) 1 1) 1 (askList (lineOf [(x, s)])) ∧ ((w2.alloc A).alloc B).heap[w2.heap.size + 1]? = some (.cells #[.int .i64 key, .slice (some ⟨w2.heap.size, 0, none⟩) 1 1, .slice none 0 0] 60 (0, 0))) := ⟨hY, oA, vB⟩
    rw [hA, hB] at HY
    clear hY oA vB
    go_wp2_with fail
    subst hA
    subst hB
    generalize (w2.alloc (.cells #[.int .i64 x, .bool s] 57)).alloc (.cells #[.int .i64 key, .slice (some ⟨w2.heap.size, 0, none⟩) 1 1, .slice none 0 0] 60) = Y at HY ⊢
    have HLY := HL2.out.below HY.out.1
    refine (insertK_any ao N c p base (w2.heap.size + 1) key (.slice (some ⟨w2.heap.size, 0, none⟩) 1 1) (.slice none 0 0) rfl rfl _ Y HP.out.1 (by omega) HLY.row (lockRow_one HLY) HY.out.2.2 (fun e => by have := (World.ownsRow.lt HL2.out.row _ e).2; omega) (by have := HB.out; have := HB2.out.size; have := HY.out.1.size; omega)).mono ?_
    rintro e w3 ⟨v3, rfl, ho3, hg3, _⟩
    have hF := HLY.ins (l := lineOf [(x, s)]) HP.out.1 (own_base HY.out.2.1 (by have := HB.out; have := HB2.out.size; omega)) (fun b h1 h2 => by have := (World.ownsRow.lt HY.out.2.1 b h1).1; have := (HL2.out.lim b h2).2; omega) hg3 ho3
    have hbF : Below base w w3 := ((after HB2.out HY.out.1).mono HB.out).grown hg3 (by have := HB.out; have := HB2.out.size; have := HY.out.1.size; omega) (fun b e => (World.ownsRow.lt HL2.out.row b e).1)
    clear ho3 hg3 HLY y0 y1
    go_wp2
    exact bodyPost_ret (v := .tuple #[v3, .bool true]) (by simp [results, Try.results25, go_sem]) rfl ⟨⟨_, true, _, p, rfl, hF.told, ⟨HP.out, .fresh HF.out⟩⟩, hbF⟩

end Go.Proofs.Ytdmkpflphjemoaa

namespace Go.Proofs.Ytdmkpflphjemoaa
open Go.RowKit

set_option maxHeartbeats 3200000 in
set_option maxRecDepth 100000 in
theorem copyLocks_any (ao : Option Addr) (N c : Nat) (K : Nat → Int) (H Q : Nat → Line) (w : World) (hN : N ≤ 1048576) (hs : ShortTo N H Q 1048576) (hz : LocksAt w ao N K H Q) :
    Calls Try.prog 23 #[.slice ao N c] w fun e w' => (∃ v hv qv, e = .returned v ∧ LocksOwn w' w.heap.size N v K H Q hv qv) ∧ Below w.heap.size w w' := by
  obtain ⟨j0, ji, jz0, jz1, jz2⟩ := info_parts Try.infoLock
  have HS : Hid (ShortTo N H Q 1048576) := hs
  have HZ : Hid (LocksAt w ao N K H Q) := hz
  clear hs hz
  go_enter Try.func23, Try.ntmps23
  go_wp2
  go_loopg [3, 8] N (fun g v i wr => ∃ (k : Nat) (hv qv : Nat → Value), k ≤ N ∧ g = N - k ∧ i = .int .i64 k ∧ LocksOwn wr w.heap.size k v K H Q hv qv ∧ Below w.heap.size w wr)
  case atStart => exact ⟨0, fun _ => .slice none 0 0, fun _ => .slice none 0 0, Nat.zero_le _, rfl, rfl, LocksOwn.nil _ _ _ _ _ _ _, Below.refl _ _⟩
  case round =>
    obtain ⟨k, hv, qv, hk, rfl, rfl, hL, hbel⟩ := hrel
    obtain ⟨av, cv, rfl, _⟩ := own_form hL.row
    by_cases hlt : k < N
    · obtain ⟨b, off, ha, hc, qa, qc, rfl, h0, h1, h2, h3, h4, h5, h6⟩ := HZ.out k hlt
      have hb := World.block_lt_of_cell? w _ h0
      have d0 := (hbel.cell (p := ⟨b, off + k * 3, none⟩) hb).trans h0
      have d1 := (hbel.cell (p := ⟨b, off + k * 3 + 1, none⟩) hb).trans h1
      have d2 := (hbel.cell (p := ⟨b, off + k * 3 + 2, none⟩) hb).trans h2
      have s1 := (HS.out k hlt).1
      have s2 := (HS.out k hlt).2
      have HH : Hid (LineAt w ha (H k) ∧ SliceOk ha (H k).n hc) := ⟨h3, h5⟩
      have HQ : Hid (LineAt w qa (Q k) ∧ SliceOk qa (Q k).n qc) := ⟨h4, h6⟩
      have HL : Hid (LocksOwn wr w.heap.size k (.slice av k cv) K H Q hv qv) := hL
      have HB : Hid (Below w.heap.size w wr) := hbel
      clear h0 h1 h2 h3 h4 h5 h6 hL
      have hp : Below wr.heap.size wr (wr.alloc (.cells #[.int .i64 (K k), .slice ha (H k).n hc, .slice qa (Q k).n qc] 60)) := push (Below.refl _ _) _
      have bX := heap_alloc_new wr (.cells #[.int .i64 (K k), .slice ha (H k).n hc, .slice qa (Q k).n qc] 60)
      go_upto_region 5 with fail
      generalize wr.alloc (.cells #[.int .i64 (K k), .slice ha (H k).n hc, .slice qa (Q k).n qc] 60) = X at hp bX ⊢
      have HX : Hid (Below wr.heap.size wr X ∧ wr.heap.size < X.heap.size) := ⟨hp, blk_lt bX⟩
      have KB : Hid (∀ w', Below X.heap.size X w' → w'.heap[wr.heap.size]? = some (.cells #[.int .i64 (K k), .slice ha (H k).n hc, .slice qa (Q k).n qc] 60 (0, 0))) := fun w' h => blk_below bX h
      have HC1 : Hid (∀ w', Below X.heap.size X w' → Calls Try.prog 46 #[.slice ha (H k).n hc] w' fun e w2 => (∃ a c, e = .returned (.slice a (H k).n c) ∧ w2.ownsRow w'.heap.size 57 2 (.slice a (H k).n c) (H k).n (askList (H k))) ∧ Below w'.heap.size w' w2) := fun w' h => (copyAsked_any ha (H k).n hc (H k) w' rfl s1 HH.out.2.2.2 (HH.out.1.below (after HB.out (after HX.out.1 h)))).mono fun _ _ ⟨⟨v, e, ho⟩, hb⟩ => by
        obtain ⟨a, c, rfl, _⟩ := own_form ho
        exact ⟨⟨a, c, e, ho⟩, hb⟩
      have HC2 : Hid (∀ w', Below X.heap.size X w' → Calls Try.prog 46 #[.slice qa (Q k).n qc] w' fun e w2 => (∃ a c, e = .returned (.slice a (Q k).n c) ∧ w2.ownsRow w'.heap.size 57 2 (.slice a (Q k).n c) (Q k).n (askList (Q k))) ∧ Below w'.heap.size w' w2) := fun w' h => (copyAsked_any qa (Q k).n qc (Q k) w' rfl s2 HQ.out.2.2.2 (HQ.out.1.below (after HB.out (after HX.out.1 h)))).mono fun _ _ ⟨⟨v, e, ho⟩, hb⟩ => by
        obtain ⟨a, c, rfl, _⟩ := own_form ho
        exact ⟨⟨a, c, e, ho⟩, hb⟩
      have x0 := blk_cell bX 0 _ rfl
      have x1 := blk_cell bX 1 _ rfl
      have x2 := blk_cell bX 2 _ rfl
      clear d0 d1 d2 hp bX hbel
      go_region_law (first
        | (go_simp; go_at_call 46; refine Calls.mono (HC1.out _ (by repeat (first | exact Below.refl _ _ | refine Below.drew ?_ | refine after ?_ hb4 | refine after ?_ hb5))) ?_; rintro e w4 ⟨⟨a4, c4, rfl, ho4⟩, hb4⟩; have z4 := KB.out w4 (by repeat (first | exact Below.refl _ _ | refine Below.drew ?_ | refine after ?_ hb4 | refine after ?_ hb5)); have o0 := blk_cell z4 0 _ rfl; have o2 := blk_cell z4 2 _ rfl; have HO4 : Hid (w4.ownsRow X.heap.size 57 2 (.slice a4 (H k).n c4) (H k).n (askList (H k))) := own_base ho4 (by first | exact Nat.le_refl _ | simp | omega); clear ho4; dsimp only)
        | (go_simp; go_at_call 46; refine Calls.mono (HC2.out _ (by repeat (first | exact Below.refl _ _ | refine Below.drew ?_ | refine after ?_ hb4 | refine after ?_ hb5))) ?_; rintro e w5 ⟨⟨a5, c5, rfl, ho5⟩, hb5⟩; have hX5 : Below X.heap.size X w5 := (by repeat (first | exact Below.refl _ _ | refine Below.drew ?_ | refine after ?_ hb4 | refine after ?_ hb5)); have z5 := KB.out w5 hX5; have p0 := blk_cell z5 0 _ rfl; have HO5 : Hid (w5.ownsRow w4.heap.size 57 2 (.slice a5 (Q k).n c5) (Q k).n (askList (Q k))) := own_base ho5 (by first | exact Nat.le_refl _ | simp | omega); have HB5 : Hid (Below X.heap.size X w4 ∧ Below w4.heap.size w4 w5) := ⟨(by repeat (first | exact Below.refl _ _ | refine Below.drew ?_ | refine after ?_ hb4)), (by repeat (first | exact Below.refl _ _ | refine Below.drew ?_ | refine after ?_ hb5))⟩; have HLR : Hid (LocksOwn (w5.alloc (.cells #[.int .i64 (K k), .slice a4 (H k).n c4, .slice a5 (Q k).n c5] 60)) w.heap.size k (.slice av k cv) K H Q hv qv) := HL.out.below (after HX.out.1 (push hX5 _)); have hsz5 : w.heap.size ≤ w5.heap.size := Nat.le_trans (Nat.le_trans HB.out.size HX.out.1.size) hX5.size; clear ho5 hb5 hb4; dsimp only)
        | (refine step_append_lies _ (by rfl) (.tmp 12) (.tmp 22) 23 (by rfl) w.heap.size 60 j0 (.agg #[.int .i64 0, .slice none 0 0, .slice none 0 0]) 3 56 Try.underlying23 ji jz0 jz1 jz2 rfl (by decide) (.slice av k cv) k _ (by rfl) HLR.out.row ⟨w5.heap.size, 0, none⟩ 1 1 [.int .i64 (K k), .slice a4 (H k).n c4, .slice a5 (Q k).n c5] (by rfl) (by rfl) (World.news_of_block (cs := #[.int .i64 (K k), .slice a4 (H k).n c4, .slice a5 (Q k).n c5]) (t := 60) (fr := (0, 0)) (heap_alloc_new w5 _)) (by intro u hu; simp at hu; rcases hu with rfl | rfl | rfl <;> rfl) (by decide) (by unfold maxLen; omega) (by omega) (by simp; omega) (w5.heap.size + 1) (by simp) ?_; intro g6 cap6 w6 ho6 hg6 hat6 hlt6))
      all_goals
        have hO6 := HLR.out.snoc (lim := X.heap.size) (fun b hb => by have := HL.out.lim b hb; have := HX.out.2; omega) (own_below (push (Below.refl _ _) _) (own_below HB5.out.2 HO4.out)) (own_base (own_below (push (Below.refl _ _) _) HO5.out) HB5.out.1.size) (fun b e1 e2 => by have := (World.ownsRow.lt HO4.out b e1).2; have := (World.ownsRow.lt HO5.out b e2).1; omega) (Nat.le_trans HB.out.size HX.out.1.size) hg6 ho6
        have hb6 : Below w.heap.size w w6 := (push (after HB.out (after HX.out.1 (after HB5.out.1 HB5.out.2))) _).grown hg6 (by simp; omega) (fun j hj => (HLR.out.row.lt j hj).1)
        clear ho6 hg6 hat6 hlt6 HLR HO4 HO5 HB5 HX HB HL HC1 HC2 KB
        go_wp2
        go_roundg (N - (k + 1))
        case measure => omega
        case rel => exact ⟨k + 1, _, _, by omega, rfl, by go_num, hO6, hb6⟩
    · obtain rfl : k = N := by omega
      go_wp2
      (try rw [Exit.noGoto_ret])
      go_ret
      exact ⟨⟨_, _, _, rfl, hL⟩, hbel⟩

end Go.Proofs.Ytdmkpflphjemoaa
