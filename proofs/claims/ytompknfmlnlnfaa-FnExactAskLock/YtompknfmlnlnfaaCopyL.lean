/-
  OWN TEXT: the contract of impl.copyLocks.
-/
import Derived.Test.YtompknfmlnlnfaaOwnL
import Derived.Test.YtompknfmlnlnfaaCopyI
import Derived.Deep.RegionWith
import Derived.Deep.RegionHeld3
import Derived.Deep.DeepCutAuto
import Derived.Deep.RegionLawGrows
import Derived.Deep.AppendLies
namespace Go.Proofs.Ytompknfmlnlnfaa
open Go.RowKit

set_option maxHeartbeats 3200000 in
set_option maxRecDepth 100000 in
theorem copyLocks_any (ao : Option Addr) (N c : Nat) (K : Nat → Int) (H Q : Nat → Line) (w : World) (hN : N ≤ 1048576) (hs : ShortTo N H Q 1048576) (hz : LocksAt w ao N K H Q) :
    Calls Try.prog 33 #[.slice ao N c] w fun e w' => (∃ v hv qv, e = .returned v ∧ LocksOwn w' w.heap.size N v K H Q hv qv) ∧ Below w.heap.size w w' := by
  obtain ⟨j0, ji, jz0, jz1, jz2⟩ := info_parts Try.infoLock
  have HS : Hid (ShortTo N H Q 1048576) := hs
  have HZ : Hid (LocksAt w ao N K H Q) := hz
  clear hs hz
  go_enter Try.func33, Try.ntmps33
  go_wp2
  go_loopg [3, 8] N (fun g v i wr => ∃ (k : Nat) (hv qv : Nat → Value), k ≤ N ∧ g = N - k ∧ i = .int .i64 k ∧ LocksOwn wr w.heap.size k v K H Q hv qv ∧ Below w.heap.size w wr)
  case atStart => exact ⟨0, fun _ => .slice none 0 0, fun _ => .slice none 0 0, Nat.zero_le _, rfl, rfl, LocksOwn.nil _ _ _ _ _ _ _, Below.refl _ _⟩
  case round =>
    obtain ⟨k, hv, qv, hk, rfl, rfl, hL, hbel⟩ := hrel
    obtain ⟨av, cv, rfl, _⟩ := own_form hL.row
    by_cases hlt : k < N
    · obtain ⟨b, off, ha, hc, qa, qc, rfl, h0, h1, h2, h3, h4, h5, h6⟩ := HZ.out k hlt
      have hb := World.block_lt_of_cell? w _ h0
      have d0 := (hbel.cell (p := ⟨b, off + k * 3, none⟩) hb).trans h0
      have d1 := (hbel.cell (p := ⟨b, off + k * 3 + 1, none⟩) hb).trans h1
      have d2 := (hbel.cell (p := ⟨b, off + k * 3 + 2, none⟩) hb).trans h2
      have s1 := (HS.out k hlt).1
      have s2 := (HS.out k hlt).2
      have HH : Hid (LineAt w ha (H k) ∧ SliceOk ha (H k).n hc) := ⟨h3, h5⟩
      have HQ : Hid (LineAt w qa (Q k) ∧ SliceOk qa (Q k).n qc) := ⟨h4, h6⟩
      have HL : Hid (LocksOwn wr w.heap.size k (.slice av k cv) K H Q hv qv) := hL
      have HB : Hid (Below w.heap.size w wr) := hbel
      clear h0 h1 h2 h3 h4 h5 h6 hL
      have hp : Below wr.heap.size wr (wr.alloc (.cells #[.int .i64 (K k), .slice ha (H k).n hc, .slice qa (Q k).n qc] 68)) := push (Below.refl _ _) _
      have bX := heap_alloc_new wr (.cells #[.int .i64 (K k), .slice ha (H k).n hc, .slice qa (Q k).n qc] 68)
      go_upto_region 5 with fail
      generalize wr.alloc (.cells #[.int .i64 (K k), .slice ha (H k).n hc, .slice qa (Q k).n qc] 68) = X at hp bX ⊢
      have HX : Hid (Below wr.heap.size wr X ∧ wr.heap.size < X.heap.size) := ⟨hp, blk_lt bX⟩
      have KB : Hid (∀ w', Below X.heap.size X w' → w'.heap[wr.heap.size]? = some (.cells #[.int .i64 (K k), .slice ha (H k).n hc, .slice qa (Q k).n qc] 68 (0, 0))) := fun w' h => blk_below bX h
      have HC1 : Hid (∀ w', Below X.heap.size X w' → Calls Try.prog 61 #[.slice ha (H k).n hc] w' fun e w2 => (∃ a c, e = .returned (.slice a (H k).n c) ∧ w2.ownsRow w'.heap.size 65 2 (.slice a (H k).n c) (H k).n (askList (H k))) ∧ Below w'.heap.size w' w2) := fun w' h => (copyAsked_any ha (H k).n hc (H k) w' rfl s1 HH.out.2.2.2 (HH.out.1.below (after HB.out (after HX.out.1 h)))).mono fun _ _ ⟨⟨v, e, ho⟩, hb⟩ => by
        obtain ⟨a, c, rfl, _⟩ := own_form ho
        exact ⟨⟨a, c, e, ho⟩, hb⟩
      have HC2 : Hid (∀ w', Below X.heap.size X w' → Calls Try.prog 61 #[.slice qa (Q k).n qc] w' fun e w2 => (∃ a c, e = .returned (.slice a (Q k).n c) ∧ w2.ownsRow w'.heap.size 65 2 (.slice a (Q k).n c) (Q k).n (askList (Q k))) ∧ Below w'.heap.size w' w2) := fun w' h => (copyAsked_any qa (Q k).n qc (Q k) w' rfl s2 HQ.out.2.2.2 (HQ.out.1.below (after HB.out (after HX.out.1 h)))).mono fun _ _ ⟨⟨v, e, ho⟩, hb⟩ => by
        obtain ⟨a, c, rfl, _⟩ := own_form ho
        exact ⟨⟨a, c, e, ho⟩, hb⟩
      have x0 := blk_cell bX 0 _ rfl
      have x1 := blk_cell bX 1 _ rfl
      have x2 := blk_cell bX 2 _ rfl
      clear d0 d1 d2 hp bX hbel
      go_region_law (first
        | (go_simp; go_at_call 61; refine Calls.mono (HC1.out _ (by repeat (first | exact Below.refl _ _ | refine Below.drew ?_ | refine after ?_ hb4 | refine after ?_ hb5))) ?_; rintro e w4 ⟨⟨a4, c4, rfl, ho4⟩, hb4⟩; have z4 := KB.out w4 (by repeat (first | exact Below.refl _ _ | refine Below.drew ?_ | refine after ?_ hb4 | refine after ?_ hb5)); have o0 := blk_cell z4 0 _ rfl; have o2 := blk_cell z4 2 _ rfl; have HO4 : Hid (w4.ownsRow X.heap.size 65 2 (.slice a4 (H k).n c4) (H k).n (askList (H k))) := own_base ho4 (by first | exact Nat.le_refl _ | simp | omega); clear ho4; dsimp only)
        | (go_simp; go_at_call 61; refine Calls.mono (HC2.out _ (by repeat (first | exact Below.refl _ _ | refine Below.drew ?_ | refine after ?_ hb4 | refine after ?_ hb5))) ?_; rintro e w5 ⟨⟨a5, c5, rfl, ho5⟩, hb5⟩; have hX5 : Below X.heap.size X w5 := (by repeat (first | exact Below.refl _ _ | refine Below.drew ?_ | refine after ?_ hb4 | refine after ?_ hb5)); have z5 := KB.out w5 hX5; have p0 := blk_cell z5 0 _ rfl; have HO5 : Hid (w5.ownsRow w4.heap.size 65 2 (.slice a5 (Q k).n c5) (Q k).n (askList (Q k))) := own_base ho5 (by first | exact Nat.le_refl _ | simp | omega); have HB5 : Hid (Below X.heap.size X w4 ∧ Below w4.heap.size w4 w5) := ⟨(by repeat (first | exact Below.refl _ _ | refine Below.drew ?_ | refine after ?_ hb4)), (by repeat (first | exact Below.refl _ _ | refine Below.drew ?_ | refine after ?_ hb5))⟩; have HLR : Hid (LocksOwn (w5.alloc (.cells #[.int .i64 (K k), .slice a4 (H k).n c4, .slice a5 (Q k).n c5] 68)) w.heap.size k (.slice av k cv) K H Q hv qv) := HL.out.below (after HX.out.1 (push hX5 _)); have hsz5 : w.heap.size ≤ w5.heap.size := Nat.le_trans (Nat.le_trans HB.out.size HX.out.1.size) hX5.size; clear ho5 hb5 hb4; dsimp only)
        | (refine step_append_lies _ (by rfl) (.tmp 12) (.tmp 22) 23 (by rfl) w.heap.size 68 j0 (.agg #[.int .i64 0, .slice none 0 0, .slice none 0 0]) 3 56 Try.underlying23 ji jz0 jz1 jz2 rfl (by decide) (.slice av k cv) k _ (by rfl) HLR.out.row ⟨w5.heap.size, 0, none⟩ 1 1 [.int .i64 (K k), .slice a4 (H k).n c4, .slice a5 (Q k).n c5] (by rfl) (by rfl) (World.news_of_block (cs := #[.int .i64 (K k), .slice a4 (H k).n c4, .slice a5 (Q k).n c5]) (t := 68) (fr := (0, 0)) (heap_alloc_new w5 _)) (by intro u hu; simp at hu; rcases hu with rfl | rfl | rfl <;> rfl) (by decide) (by unfold maxLen; omega) (by omega) (by simp; omega) (w5.heap.size + 1) (by simp) ?_; intro g6 cap6 w6 ho6 hg6 hat6 hlt6))
      all_goals
        have hO6 := HLR.out.snoc (lim := X.heap.size) (fun b hb => by have := HL.out.lim b hb; have := HX.out.2; omega) (own_below (push (Below.refl _ _) _) (own_below HB5.out.2 HO4.out)) (own_base (own_below (push (Below.refl _ _) _) HO5.out) HB5.out.1.size) (fun b e1 e2 => by have := (World.ownsRow.lt HO4.out b e1).2; have := (World.ownsRow.lt HO5.out b e2).1; omega) (Nat.le_trans HB.out.size HX.out.1.size) hg6 ho6
        have hb6 : Below w.heap.size w w6 := (push (after HB.out (after HX.out.1 (after HB5.out.1 HB5.out.2))) _).grown hg6 (by simp; omega) (fun j hj => (HLR.out.row.lt j hj).1)
        clear ho6 hg6 hat6 hlt6 HLR HO4 HO5 HB5 HX HB HL HC1 HC2 KB
        go_wp2
        go_roundg (N - (k + 1))
        case measure => omega
        case rel => exact ⟨k + 1, _, _, by omega, rfl, by go_num, hO6, hb6⟩
    · obtain rfl : k = N := by omega
      go_wp2
      (try rw [Exit.noGoto_ret])
      go_ret
      exact ⟨⟨_, _, _, rfl, hL⟩, hbel⟩

end Go.Proofs.Ytompknfmlnlnfaa
