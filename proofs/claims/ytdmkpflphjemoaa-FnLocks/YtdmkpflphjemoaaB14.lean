/-
  OWN TEXT: BehI, SpecHo.
-/
import Derived.Test.YtdmkpflphjemoaaB13
namespace Go.Proofs.Ytdmkpflphjemoaa
open Go.RowKit

/-- A line without its first. -/
def tailLine (l : Line) : Line := ⟨l.n - 1, fun i => l.T (i + 1), fun i => l.S (i + 1)⟩
theorem asksTo_tail (l : Line) (h : 0 < l.n) : asksTo l l.n = (l.T 0, l.S 0) :: asksTo (tailLine l) (tailLine l).n := by
  obtain ⟨n, hn⟩ : ∃ n, l.n = n + 1 := ⟨l.n - 1, by omega⟩
  have e : (tailLine l).n = n := by show l.n - 1 = n; omega
  rw [e, hn]
  unfold asksTo
  rw [List.range_succ_eq_map, List.map_cons, List.map_map]
  rfl
theorem lineAt_tail {w : World} {b off : Nat} {l : Line} (h : LineAt w (some ⟨b, off, none⟩) l) : LineAt w (some ⟨b, off + 2, none⟩) (tailLine l) := by
  intro k hk
  have hk' : k < l.n - 1 := hk
  obtain ⟨b', off', e, h1, h2⟩ := h (k + 1) (by omega)
  simp only [Option.some.injEq, Addr.mk.injEq, and_true] at e
  obtain ⟨rfl, rfl⟩ := e
  refine ⟨b, off + 2, rfl, ?_, ?_⟩
  · rw [show off + 2 + k * 2 = off + (k + 1) * 2 by omega]; exact h1
  · rw [show off + 2 + k * 2 + 1 = off + (k + 1) * 2 + 1 by omega]; exact h2

set_option maxHeartbeats 800000 in
theorem behindFirst_any (b off n c : Nat) (l : Line) (w : World) (e1 : l.n = n) (h0 : 0 < n) (hn : n ≤ 1048576) (hc : n ≤ c) (hc2 : c ≤ 9223372036854775807) (hx : LineAt w (some ⟨b, off, none⟩) l) :
    Calls Try.prog 54 #[.slice (some ⟨b, off, none⟩) n c] w fun e w' => ∃ off', e = .returned (.slice (some ⟨b, off', none⟩) (n - 1) (n - 1)) ∧ w' = w ∧ LineAt w (some ⟨b, off', none⟩) (tailLine l) := by
  obtain ⟨j0, ji, jz0, jz1, jz2⟩ := info_parts Try.infoAsked
  have HT : Hid (LineAt w (some ⟨b, off + 2, none⟩) (tailLine l)) := lineAt_tail hx
  have HE : Hid (n = 1 → ∀ a, LineAt w a (tailLine l)) := fun h a k hk => by have : k < l.n - 1 := hk; omega
  clear hx e1
  have i1 : (1 : Int) ≤ (n : Int) := by omega
  have i2 : (n : Int) ≤ (c : Int) := by omega
  have i3 : (0 : Int) ≤ (n : Int) := by omega
  go_enter Try.func54, Try.ntmps54
  by_cases h1 : n = 1
  · subst h1
    go_wp2
    (try rw [Exit.noGoto_ret])
    go_ret
    exact ⟨_, rfl, rfl, HE.out trivial _⟩
  · go_wp2
    (try rw [Exit.noGoto_ret])
    go_ret
    exact ⟨_, rfl, rfl, HT.out⟩

end Go.Proofs.Ytdmkpflphjemoaa

namespace Go.Proofs.Ytdmkpflphjemoaa
open Go.RowKit

/-- Where the task x goes among a line's. -/
def IsSlot (l : Line) (x : Int) (p : Nat) : Prop := p ≤ l.n ∧ (∀ j, j < p → l.T j < x) ∧ (p < l.n → ¬ l.T p < x)
theorem slot_one {l : Line} {x : Int} {p q : Nat} (h : IsSlot l x p) (k : IsSlot l x q) : p = q := by
  rcases Nat.lt_trichotomy p q with e | e | e
  · exact absurd (k.2.1 p e) (h.2.2 (by have := k.1; omega))
  · exact e
  · exact absurd (h.2.1 q e) (k.2.2 (by have := h.1; omega))
/-- A line from its place p on. -/
def dropLine (l : Line) (p : Nat) : Line := ⟨l.n - p, fun i => l.T (i + p), fun i => l.S (i + p)⟩
theorem lineAt_drop {w : World} {b off : Nat} {l : Line} (p : Nat) (h : LineAt w (some ⟨b, off, none⟩) l) : LineAt w (some ⟨b, off + p * 2, none⟩) (dropLine l p) := by
  intro k hk
  have hk' : k < l.n - p := hk
  obtain ⟨b', off', e, h1, h2⟩ := h (k + p) (by omega)
  simp only [Option.some.injEq, Addr.mk.injEq, and_true] at e
  obtain ⟨rfl, rfl⟩ := e
  refine ⟨b, off + p * 2, rfl, ?_, ?_⟩
  · rw [show off + p * 2 + k * 2 = off + (k + p) * 2 by omega]; exact h1
  · rw [show off + p * 2 + k * 2 + 1 = off + (k + p) * 2 + 1 by omega]; exact h2
/-- The line with one more at its place. -/
def insA (l : Line) (x : Int) (s : Bool) (p : Nat) : List Value := askList (headLine l p) ++ [.int .i64 x, .bool s] ++ askList (dropLine l p)

set_option maxHeartbeats 1600000 in
set_option maxRecDepth 100000 in
theorem l2Hold_any (ao : Option Addr) (n c : Nat) (l : Line) (x : Int) (s : Bool) (w : World) (e1 : l.n = n) (hn : n ≤ 1048576) (hc : n ≤ c) (hc2 : c ≤ 9223372036854775807) (hna : ao = none → n = 0 ∧ c = 0) (hx : LineAt w ao l) :
    Calls Try.prog 33 #[.slice ao n c, .agg #[.int .i64 x, .bool s]] w fun e w' => (∃ v p, e = .returned v ∧ IsSlot l x p ∧ w'.ownsRow w.heap.size 57 2 v (n + 1) (insA l x s p)) ∧ Below w.heap.size w w' := by
  obtain ⟨j0, ji, jz0, jz1, jz2⟩ := info_parts Try.infoAsked
  have E1 : Hid (l.n = n) := e1
  have HX : Hid (LineAt w ao l) := hx
  have HNA : Hid (ao = none → n = 0 ∧ c = 0) := hna
  clear e1 hx hna
  have hb0 : Below w.heap.size w (w.alloc (.cells #[.int .i64 x, .bool s] 57)) := push (Below.refl _ _) _
  have bA := heap_alloc_new w (.cells #[.int .i64 x, .bool s] 57)
  go_enter Try.func33, Try.ntmps33
  go_wp2
  generalize w.alloc (.cells #[.int .i64 x, .bool s] 57) = X at hb0 bA ⊢
  go_loopw [5] (fun i wr => ∃ p : Nat, p ≤ n ∧ i = .int .i64 p ∧ (∀ j, j < p → l.T j < x) ∧ Below X.heap.size X wr) (fun i _ => n - (intOf i).toNat)
  case atStart => exact ⟨0, Nat.zero_le _, rfl, fun j hj => by omega, Below.refl _ _⟩
  case round =>
    obtain ⟨p, hp, rfl, hle, hbel⟩ := hrel
    have HLE : Hid (∀ j, j < p → l.T j < x) := hle
    clear hle
    have bP := blk_below bA hbel
    have y0 := blk_cell bP 0 _ rfl
    by_cases hlt : p < n
    · obtain ⟨b, off, rfl, h1, h2⟩ := HX.out p (by rw [E1.out]; omega)
      have hb := World.block_lt_of_cell? w _ h1
      have d1 := ((after hb0 hbel).cell (p := ⟨b, off + p * 2, none⟩) hb).trans h1
      clear h1 h2
      have e0 : decide ((p : Int) < (n : Int)) = true := by simp; omega
      have e1 : (p : Int) < (n : Int) := by omega
      have e2 : (0 : Int) ≤ (p : Int) := by omega
      by_cases hT : l.T p < x
      · have e3 : decide (l.T p < x) = true := by simpa using hT
        go_wp2
        go_quiet (fail)
        go_wp2
        go_roundw
        case rel => exact ⟨p + 1, by omega, by go_num, fun j hj => by rcases Nat.lt_succ_iff_lt_or_eq.1 hj with h | h; exact HLE.out j h; rw [h]; exact hT, below_drewN hbel _⟩
        case measure => simp [intOf]; omega
      · have e3 : decide (l.T p < x) = false := by simpa using hT
        go_wp2
        go_quiet (fail)
        have HSL : Hid (IsSlot l x p) := ⟨by rw [E1.out]; exact hp, HLE.out, fun _ => by omega⟩
        have HN1 : Hid ((some ⟨b, off, none⟩ : Option Addr) = none → p = 0 ∧ c = 0) := fun h => by cases h
        have HDN : Hid ((dropLine l p).n = n - p) := by show l.n - p = n - p; rw [E1.out]
        have hY : Below w.heap.size w (wr.drewN nq) := below_drewN (after hb0 hbel) _
        have bY : (wr.drewN nq).heap[w.heap.size]? = some (.cells #[.int .i64 x, .bool s] 57 (0, 0)) := blk_below bP (below_drewN (Below.refl _ _) _)
        clear y0 bP hbel
        generalize wr.drewN nq = Y at hY bY ⊢
        have hlY : w.heap.size + 1 ≤ Y.heap.size := blk_lt bY
        have H0 : Hid (Y.ownsRow (w.heap.size + 1) 57 2 (.slice none 0 0) 0 []) := ⟨rfl, .inl ⟨rfl, rfl⟩⟩
        have HD : Hid (LineAt Y (some ⟨b, off, none⟩) (headLine l p)) := headLine_at (HX.out.below hY) (by rw [E1.out]; exact hp)
        have i1 : (p : Int) ≤ (c : Int) := by omega
        have i2 : (0 : Int) ≤ (p : Int) := by omega
        have i3 : (p : Int) ≤ (n : Int) := by omega
        go_wp2_with (first
          | (at_builtin; refine wpList_append_any _ (by rfl) (.tmp 23) (.tmp 26) 58 (by rfl) (w.heap.size + 1) 57 j0 (.agg #[.int .i64 0, .bool false]) 2 16 Try.underlying58 ji jz0 jz1 jz2 rfl (by decide) _ 0 [] (by rfl) H0.out (some ⟨b, off, none⟩) p c (askList (headLine l p)) (by rfl) HN1.out (askList_length _) (line_cells HD.out) (askList_one _) (by unfold maxLen; omega) (by omega) hlY ?_; intro v1 w1 ho1 hg1; rw [Nat.zero_add, List.nil_append] at ho1; obtain ⟨a1, c1, rfl, _⟩ := own_form ho1; have bY1 := (kept_by hg1).blk bY (by simp [Value.ownBlock]); have z0 := blk_cell bY1 0 _ rfl; have z1 := blk_cell bY1 1 _ rfl; have hl1 : w.heap.size + 1 ≤ w1.heap.size := blk_lt bY1; have hb1 : Below w.heap.size w w1 := hY.grown hg1 hY.size (fun j hj => by simp [Value.ownBlock] at hj))
          | (at_builtin; refine wpList_append_any _ (by rfl) (.tmp 28) (.tmp 30) 58 (by rfl) (w.heap.size + 1) 57 j0 (.agg #[.int .i64 0, .bool false]) 2 16 Try.underlying58 ji jz0 jz1 jz2 rfl (by decide) _ p (askList (headLine l p)) (by rfl) (ho1.alloc _) (some ⟨w1.heap.size, 0, none⟩) 1 1 [.int .i64 x, .bool s] (by rfl) (fun h => (by cases h)) (by rfl) (fun ad e => by cases e; exact World.news_of_block (heap_alloc_new w1 _)) (by intro u hu; simp at hu; rcases hu with rfl | rfl <;> rfl) (by unfold maxLen; omega) (by omega) (by simp; omega) ?_; intro v2 w2 ho2 hg2; obtain ⟨a2, c2, rfl, _⟩ := own_form ho2; have hb2 : Below w.heap.size w w2 := (push hb1 _).grown hg2 (by simp; omega) (fun j hj => by have := (World.ownsRow.lt ho1 j hj).1; omega); have hl2 : w.heap.size + 1 ≤ w2.heap.size := Nat.le_trans hl1 (Nat.le_trans (by simp) hg2.size))
          | (at_builtin; refine wpList_append_any _ (by rfl) (.tmp 32) (.tmp 35) 58 (by rfl) (w.heap.size + 1) 57 j0 (.agg #[.int .i64 0, .bool false]) 2 16 Try.underlying58 ji jz0 jz1 jz2 rfl (by decide) _ (p + 1) _ (by rfl) ho2 (some ⟨b, off + p * 2, none⟩) (n - p) (c - p) (askList (dropLine l p)) (by rfl) (fun h => (by cases h)) (by rw [askList_length, HDN.out]) (line_cells (lineAt_drop p (HX.out.below hb2))) (askList_one _) (by unfold maxLen; omega) (by omega) hl2 ?_; intro v3 w3 ho3 hg3))
        (try rw [Exit.noGoto_ret])
        go_ret
        refine ⟨⟨_, p, rfl, HSL.out, ?_⟩, hb2.grown hg3 hb2.size (fun j hj => by have := (World.ownsRow.lt ho2 j hj).1; omega)⟩
        have hF := own_base ho3 (show w.heap.size ≤ w.heap.size + 1 by omega)
        rw [show p + 1 + (n - p) = n + 1 by omega] at hF
        exact hF
    · have e0 : decide ((p : Int) < (n : Int)) = false := by simp; omega
      go_wp2
      go_quiet (fail)
      have HSL : Hid (IsSlot l x p) := ⟨by rw [E1.out]; exact hp, HLE.out, fun h => by have := E1.out; omega⟩
      obtain rfl : p = n := by omega
      have HDE : Hid (askList (dropLine l p) = []) := by
        show askList (dropLine l p) = []
        unfold askList
        rw [show (dropLine l p).n = 0 by show l.n - p = 0; rw [E1.out]; omega]; rfl
      cases ao with
      | none =>
        obtain ⟨rfl, rfl⟩ := HNA.out rfl
        have HN1 : Hid ((none : Option Addr) = none → 0 = 0 ∧ 0 = 0) := fun _ => ⟨rfl, rfl⟩
        have hY : Below w.heap.size w (wr.drewN nq) := below_drewN (after hb0 hbel) _
        have bY : (wr.drewN nq).heap[w.heap.size]? = some (.cells #[.int .i64 x, .bool s] 57 (0, 0)) := blk_below bP (below_drewN (Below.refl _ _) _)
        clear y0 bP hbel
        generalize wr.drewN nq = Y at hY bY ⊢
        have hlY : w.heap.size + 1 ≤ Y.heap.size := blk_lt bY
        have H0 : Hid (Y.ownsRow (w.heap.size + 1) 57 2 (.slice none 0 0) 0 []) := ⟨rfl, .inl ⟨rfl, rfl⟩⟩
        have HD : Hid (LineAt Y (none : Option Addr) (headLine l 0)) := headLine_at (HX.out.below hY) (by rw [E1.out]; exact hp)
        have i1 : (0 : Int) ≤ (0 : Int) := by omega
        have i2 : (0 : Int) ≤ (0 : Int) := by omega
        have i3 : (0 : Int) ≤ (0 : Int) := by omega
        go_wp2_with (first
          | (at_builtin; refine wpList_append_any _ (by rfl) (.tmp 23) (.tmp 26) 58 (by rfl) (w.heap.size + 1) 57 j0 (.agg #[.int .i64 0, .bool false]) 2 16 Try.underlying58 ji jz0 jz1 jz2 rfl (by decide) _ 0 [] (by rfl) H0.out none 0 0 (askList (headLine l 0)) (by rfl) HN1.out (askList_length _) (line_cells HD.out) (askList_one _) (by unfold maxLen; omega) (by omega) hlY ?_; intro v1 w1 ho1 hg1; rw [Nat.zero_add, List.nil_append] at ho1; obtain ⟨a1, c1, rfl, _⟩ := own_form ho1; have bY1 := (kept_by hg1).blk bY (by simp [Value.ownBlock]); have z0 := blk_cell bY1 0 _ rfl; have z1 := blk_cell bY1 1 _ rfl; have hl1 : w.heap.size + 1 ≤ w1.heap.size := blk_lt bY1; have hb1 : Below w.heap.size w w1 := hY.grown hg1 hY.size (fun j hj => by simp [Value.ownBlock] at hj))
          | (at_builtin; refine wpList_append_any _ (by rfl) (.tmp 28) (.tmp 30) 58 (by rfl) (w.heap.size + 1) 57 j0 (.agg #[.int .i64 0, .bool false]) 2 16 Try.underlying58 ji jz0 jz1 jz2 rfl (by decide) _ 0 (askList (headLine l 0)) (by rfl) (ho1.alloc _) (some ⟨w1.heap.size, 0, none⟩) 1 1 [.int .i64 x, .bool s] (by rfl) (fun h => (by cases h)) (by rfl) (fun ad e => by cases e; exact World.news_of_block (heap_alloc_new w1 _)) (by intro u hu; simp at hu; rcases hu with rfl | rfl <;> rfl) (by unfold maxLen; omega) (by omega) (by simp; omega) ?_; intro v2 w2 ho2 hg2; obtain ⟨a2, c2, rfl, _⟩ := own_form ho2; have hb2 : Below w.heap.size w w2 := (push hb1 _).grown hg2 (by simp; omega) (fun j hj => by have := (World.ownsRow.lt ho1 j hj).1; omega); have hl2 : w.heap.size + 1 ≤ w2.heap.size := Nat.le_trans hl1 (Nat.le_trans (by simp) hg2.size))
          | (at_builtin; refine wpList_append_any _ (by rfl) (.tmp 32) (.tmp 35) 58 (by rfl) (w.heap.size + 1) 57 j0 (.agg #[.int .i64 0, .bool false]) 2 16 Try.underlying58 ji jz0 jz1 jz2 rfl (by decide) _ (0 + 1) _ (by rfl) ho2 _ 0 _ [] (by rfl) (fun h => (by first | exact ⟨rfl, rfl⟩ | cases h)) (by rfl) (fun _ _ j u h => (by simp at h)) (by intro u hu; simp at hu) (by unfold maxLen; omega) (by omega) hl2 ?_; intro v3 w3 ho3 hg3))
        (try rw [Exit.noGoto_ret])
        go_ret
        refine ⟨⟨_, rfl, 0, HSL.out, ?_⟩, hb2.grown hg3 hb2.size (fun j hj => by have := (World.ownsRow.lt ho2 j hj).1; omega)⟩
        have hF := own_base ho3 (show w.heap.size ≤ w.heap.size + 1 by omega)
        unfold insA
        rw [HDE.out]
        exact hF
      | some ad =>
        have HN1 : Hid ((some ad : Option Addr) = none → p = 0 ∧ c = 0) := fun h => by cases h
        have hY : Below w.heap.size w (wr.drewN nq) := below_drewN (after hb0 hbel) _
        have bY : (wr.drewN nq).heap[w.heap.size]? = some (.cells #[.int .i64 x, .bool s] 57 (0, 0)) := blk_below bP (below_drewN (Below.refl _ _) _)
        clear y0 bP hbel
        generalize wr.drewN nq = Y at hY bY ⊢
        have hlY : w.heap.size + 1 ≤ Y.heap.size := blk_lt bY
        have H0 : Hid (Y.ownsRow (w.heap.size + 1) 57 2 (.slice none 0 0) 0 []) := ⟨rfl, .inl ⟨rfl, rfl⟩⟩
        have HD : Hid (LineAt Y (some ad) (headLine l p)) := headLine_at (HX.out.below hY) (by rw [E1.out]; exact hp)
        have i1 : (p : Int) ≤ (c : Int) := by omega
        have i2 : (0 : Int) ≤ (p : Int) := by omega
        have i3 : (p : Int) ≤ (p : Int) := by omega
        go_wp2_with (first
          | (at_builtin; refine wpList_append_any _ (by rfl) (.tmp 23) (.tmp 26) 58 (by rfl) (w.heap.size + 1) 57 j0 (.agg #[.int .i64 0, .bool false]) 2 16 Try.underlying58 ji jz0 jz1 jz2 rfl (by decide) _ 0 [] (by rfl) H0.out (some ad) p c (askList (headLine l p)) (by rfl) HN1.out (askList_length _) (line_cells HD.out) (askList_one _) (by unfold maxLen; omega) (by omega) hlY ?_; intro v1 w1 ho1 hg1; rw [Nat.zero_add, List.nil_append] at ho1; obtain ⟨a1, c1, rfl, _⟩ := own_form ho1; have bY1 := (kept_by hg1).blk bY (by simp [Value.ownBlock]); have z0 := blk_cell bY1 0 _ rfl; have z1 := blk_cell bY1 1 _ rfl; have hl1 : w.heap.size + 1 ≤ w1.heap.size := blk_lt bY1; have hb1 : Below w.heap.size w w1 := hY.grown hg1 hY.size (fun j hj => by simp [Value.ownBlock] at hj))
          | (at_builtin; refine wpList_append_any _ (by rfl) (.tmp 28) (.tmp 30) 58 (by rfl) (w.heap.size + 1) 57 j0 (.agg #[.int .i64 0, .bool false]) 2 16 Try.underlying58 ji jz0 jz1 jz2 rfl (by decide) _ p (askList (headLine l p)) (by rfl) (ho1.alloc _) (some ⟨w1.heap.size, 0, none⟩) 1 1 [.int .i64 x, .bool s] (by rfl) (fun h => (by cases h)) (by rfl) (fun ad e => by cases e; exact World.news_of_block (heap_alloc_new w1 _)) (by intro u hu; simp at hu; rcases hu with rfl | rfl <;> rfl) (by unfold maxLen; omega) (by omega) (by simp; omega) ?_; intro v2 w2 ho2 hg2; obtain ⟨a2, c2, rfl, _⟩ := own_form ho2; have hb2 : Below w.heap.size w w2 := (push hb1 _).grown hg2 (by simp; omega) (fun j hj => by have := (World.ownsRow.lt ho1 j hj).1; omega); have hl2 : w.heap.size + 1 ≤ w2.heap.size := Nat.le_trans hl1 (Nat.le_trans (by simp) hg2.size))
          | (at_builtin; refine wpList_append_any _ (by rfl) (.tmp 32) (.tmp 35) 58 (by rfl) (w.heap.size + 1) 57 j0 (.agg #[.int .i64 0, .bool false]) 2 16 Try.underlying58 ji jz0 jz1 jz2 rfl (by decide) _ (p + 1) _ (by rfl) ho2 (if c = p then some ad else some (ad.add (p * 2))) 0 (c - p) [] (by rfl) (fun h => (by split at h <;> cases h)) (by rfl) (fun _ _ j u h => (by simp at h)) (by intro u hu; simp at hu) (by unfold maxLen; omega) (by omega) hl2 ?_; intro v3 w3 ho3 hg3))
        all_goals
          (try rw [Exit.noGoto_ret])
          go_ret
          first
            | refine ⟨⟨_, p, rfl, HSL.out, ?_⟩, hb2.grown hg3 hb2.size (fun j hj => by have := (World.ownsRow.lt ho2 j hj).1; omega)⟩
            | refine ⟨⟨_, rfl, p, HSL.out, ?_⟩, hb2.grown hg3 hb2.size (fun j hj => by have := (World.ownsRow.lt ho2 j hj).1; omega)⟩
          have hF := own_base ho3 (show w.heap.size ≤ w.heap.size + 1 by omega)
          unfold insA
          rw [HDE.out]
          exact hF

end Go.Proofs.Ytdmkpflphjemoaa
