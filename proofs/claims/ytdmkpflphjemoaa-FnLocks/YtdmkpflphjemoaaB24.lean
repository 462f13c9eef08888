/-
  OWN TEXT: WaitB, KeysB.
-/
import Derived.Test.YtdmkpflphjemoaaB09
import Derived.Test.YtdmkpflphjemoaaB11
namespace Go.Proofs.Ytdmkpflphjemoaa
open Go.RowKit

/-- x waits at lock i, and at none before it. -/
def waitsIn (N : Nat) (Q : Nat → Line) (x : Int) (i : Nat) : Prop := i < N ∧ inLine (Q i) x ∧ ∀ i', i' < i → ¬ inLine (Q i') x
theorem waitsIn_one {N : Nat} {Q : Nat → Line} {x : Int} {i j : Nat} (h : waitsIn N Q x i) (h' : waitsIn N Q x j) : i = j := by
  rcases Nat.lt_trichotomy i j with e | e | e
  · exact absurd h.2.1 (h'.2.2 i e)
  · exact e
  · exact absurd h'.2.1 (h.2.2 j e)
def noWait (N : Nat) (Q : Nat → Line) (x : Int) : Prop := ∀ i, i < N → ¬ inLine (Q i) x
theorem noWait_not {N : Nat} {Q : Nat → Line} {x : Int} {i : Nat} (h : noWait N Q x) : ¬ waitsIn N Q x i := fun h' => h i h'.1 h'.2.1
theorem firstAt_one {l : Line} {x : Int} {i j : Nat} (h : firstAt l x i) (h' : firstAt l x j) : i = j := by
  rcases Nat.lt_trichotomy i j with e | e | e
  · exact absurd h.2.1 (h'.2.2 i e)
  · exact e
  · exact absurd h'.2.1 (h.2.2 j e)

/-- What l2Waits answers. -/
def LockOf (N : Nat) (Q : Nat → Line) (x : Int) (e : Ending) : Prop := (∃ i : Nat, waitsIn N Q x i ∧ e = .returned (.int .i64 i)) ∨ (noWait N Q x ∧ e = .returned (.int .i64 (-1)))

set_option maxHeartbeats 800000 in
set_option maxRecDepth 100000 in
theorem l2Waits_any (ao : Option Addr) (N c : Nat) (K : Nat → Int) (H Q : Nat → Line) (x : Int) (w : World) (hN : N ≤ 1048576) (hs : ShortTo N H Q 1048576) (hx : LocksAt w ao N K H Q) :
    Calls Try.prog 30 #[.slice ao N c, .int .i64 x] w fun e w' => LockOf N Q x e ∧ Below w.heap.size w w' := by
  have HS : Hid (ShortTo N H Q 1048576) := hs
  clear hs
  go_enter Try.func30, Try.ntmps30
  go_wp2
  go_loopw [9] (fun i wr => ∃ k : Nat, k ≤ N ∧ i = .int .i64 k ∧ (∀ j, j < k → ¬ inLine (Q j) x) ∧ Below w.heap.size w wr) (fun i _ => N - (intOf i).toNat)
  case atStart => exact ⟨0, Nat.zero_le _, rfl, fun j hj => by omega, Below.refl _ _⟩
  case round =>
    obtain ⟨k, hk, rfl, hpre, hbel⟩ := hrel
    have HP : Hid (∀ j, j < k → ¬ inLine (Q j) x) := hpre
    clear hpre
    by_cases hlt : k < N
    · obtain ⟨b, off, ha, hc, qa, qc, rfl, h1, h2, h3, l1, l2, _, _⟩ := hx k hlt
      have hb := World.block_lt_of_cell? w _ h1
      have d1 := (hbel.cell (p := ⟨b, off + k * 3, none⟩) hb).trans h1
      have d2 := (hbel.cell (p := ⟨b, off + k * 3 + 1, none⟩) hb).trans h2
      have d3 := (hbel.cell (p := ⟨b, off + k * 3 + 2, none⟩) hb).trans h3
      have s2 := (HS.out k hlt).2
      have l2' := l2.below (push hbel (.cells #[.int .i64 (K k), .slice ha (H k).n hc, .slice qa (Q k).n qc] 60))
      clear h1 h2 h3
      by_cases hin : inLine (Q k) x
      · have HI : Hid (inLine (Q k) x) := hin
        clear hin
        go_wp2_with (first | (go_at_call 31; refine (l2In_yes _ _ _ (Q k) _ _ rfl s2 l2' HI.out).mono ?_; rintro e w2 ⟨r, rfl, _, hb2⟩))
        go_ret
        exact ⟨.inl ⟨k, ⟨hlt, HI.out, HP.out⟩, rfl⟩, after (push hbel _) hb2⟩
      · have HI : Hid (¬ inLine (Q k) x) := hin
        clear hin
        go_wp2_with (first | (go_at_call 31; refine (l2In_no _ _ _ (Q k) _ _ rfl s2 l2' HI.out).mono ?_; rintro e w2 ⟨rfl, hb2⟩))
        go_roundw
        case rel => exact ⟨k + 1, by omega, by go_num, fun j hj => by
          by_cases e : j = k
          · subst e; exact HI.out
          · exact HP.out j (by omega), after (push hbel _) hb2⟩
        case measure => simp [intOf]; omega
    · obtain rfl : k = N := by omega
      go_wp2
      go_ret
      exact ⟨.inr ⟨HP.out, rfl⟩, hbel⟩

/-- What placeInQueue answers. -/
def PlaceOf (N : Nat) (Q : Nat → Line) (x : Int) (e : Ending) : Prop :=
  (∃ i j : Nat, waitsIn N Q x i ∧ firstAt (Q i) x j ∧ e = .returned (.tuple #[.int .i64 i, .int .i64 j, .bool true])) ∨ (noWait N Q x ∧ e = .returned (.tuple #[.int .i64 0, .int .i64 0, .bool false]))

set_option maxHeartbeats 800000 in
set_option maxRecDepth 100000 in
theorem placeInQueue_any (ao : Option Addr) (N c : Nat) (K : Nat → Int) (H Q : Nat → Line) (x : Int) (w : World) (hN : N ≤ 1048576) (hs : ShortTo N H Q 1048576) (hx : LocksAt w ao N K H Q) :
    Calls Try.prog 34 #[.slice ao N c, .int .i64 x] w fun e w' => PlaceOf N Q x e ∧ Below w.heap.size w w' := by
  have HS : Hid (ShortTo N H Q 1048576) := hs
  clear hs
  go_enter Try.func34, Try.ntmps34
  go_wp2
  go_loopw [13] (fun i wr => ∃ k : Nat, k ≤ N ∧ i = .int .i64 k ∧ (∀ j, j < k → ¬ inLine (Q j) x) ∧ Below w.heap.size w wr) (fun i _ => N - (intOf i).toNat)
  case atStart => exact ⟨0, Nat.zero_le _, rfl, fun j hj => by omega, Below.refl _ _⟩
  case round =>
    obtain ⟨k, hk, rfl, hpre, hbel⟩ := hrel
    have HP : Hid (∀ j, j < k → ¬ inLine (Q j) x) := hpre
    clear hpre
    by_cases hlt : k < N
    · obtain ⟨b, off, ha, hc, qa, qc, rfl, h1, h2, h3, l1, l2, _, _⟩ := hx k hlt
      have hb := World.block_lt_of_cell? w _ h1
      have d1 := (hbel.cell (p := ⟨b, off + k * 3, none⟩) hb).trans h1
      have d2 := (hbel.cell (p := ⟨b, off + k * 3 + 1, none⟩) hb).trans h2
      have d3 := (hbel.cell (p := ⟨b, off + k * 3 + 2, none⟩) hb).trans h3
      have s2 := (HS.out k hlt).2
      have hbel0 := push hbel (.cells #[.int .i64 (K k), .slice ha (H k).n hc, .slice qa (Q k).n qc] 60)
      clear h1 h2 h3
      go_wp2
      go_loopw [21] (fun i wr2 => ∃ p : Nat, p ≤ (Q k).n ∧ i = .int .i64 p ∧ (∀ t, t < p → (Q k).T t ≠ x) ∧ Below w.heap.size w wr2) (fun i _ => (Q k).n - (intOf i).toNat)
      case atStart => exact ⟨0, Nat.zero_le _, rfl, fun i hi => by omega, hbel0⟩
      case round =>
        clear hbel0 hbel d1 d2 d3
        obtain ⟨p, hp, rfl, hpre, hbel⟩ := hrel
        have HT : Hid (∀ t, t < p → (Q k).T t ≠ x) := hpre
        clear hpre
        by_cases hlp : p < (Q k).n
        · obtain ⟨b2, off2, rfl, g1, g2⟩ := l2 p hlp
          have hb2 := World.block_lt_of_cell? w _ g1
          have t1 := (hbel.cell (p := ⟨b2, off2 + p * 2, none⟩) hb2).trans g1
          have t2 := (hbel.cell (p := ⟨b2, off2 + p * 2 + 1, none⟩) hb2).trans g2
          clear g1 g2
          by_cases he : (Q k).T p = x
          · have HE : Hid ((Q k).T p = x) := he
            have hne : ((Q k).T p == x) = true := by simpa using he
            clear he
            go_wp2
            exact bodyPost_ret (v := .tuple #[.int .i64 k, .int .i64 p, .bool true]) (by simp [results, Try.results34, go_sem]) rfl ⟨.inl ⟨k, p, ⟨hlt, ⟨p, hlp, HE.out⟩, HP.out⟩, ⟨hlp, HE.out, HT.out⟩, rfl⟩, push hbel _⟩
          · have HE : Hid ((Q k).T p ≠ x) := he
            have hne : ((Q k).T p == x) = false := by simpa using he
            clear he
            go_wp2
            go_roundw
            case rel => exact ⟨p + 1, by omega, by go_num, fun t ht => by
              by_cases e : t = p
              · subst e; exact HE.out
              · exact HT.out t (by omega), push hbel _⟩
            case measure => simp [intOf]; omega
        · obtain rfl : p = (Q k).n := by omega
          go_wp2
          go_roundw
          case rel => exact ⟨k + 1, by omega, by go_num, fun j hj => by
            by_cases e : j = k
            · subst e; rintro ⟨t, ht, et⟩; exact HT.out t ht et
            · exact HP.out j (by omega), hbel⟩
          case measure => simp [intOf]; omega
    · obtain rfl : k = N := by omega
      go_wp2
      exact bodyPost_ret (v := .tuple #[.int .i64 0, .int .i64 0, .bool false]) (by simp [results, Try.results34, go_sem]) rfl ⟨.inr ⟨HP.out, rfl⟩, hbel⟩

end Go.Proofs.Ytdmkpflphjemoaa

namespace Go.Proofs.Ytdmkpflphjemoaa
open Go.RowKit

open Classical in
/-- The keys of those of the first k locks that x holds. -/
noncomputable def keysTo (K : Nat → Int) (H : Nat → Line) (x : Int) : Nat → List Int
  | 0 => []
  | k + 1 => if inLine (H k) x then keysTo K H x k ++ [K k] else keysTo K H x k
theorem keysTo_yes {K : Nat → Int} {H : Nat → Line} {x : Int} {k : Nat} (h : inLine (H k) x) : keysTo K H x (k + 1) = keysTo K H x k ++ [K k] := by rw [keysTo, if_pos h]
theorem keysTo_no {K : Nat → Int} {H : Nat → Line} {x : Int} {k : Nat} (h : ¬ inLine (H k) x) : keysTo K H x (k + 1) = keysTo K H x k := by rw [keysTo, if_neg h]
theorem keysTo_le (K : Nat → Int) (H : Nat → Line) (x : Int) (k : Nat) : (keysTo K H x k).length ≤ k := by
  induction k with
  | zero => exact Nat.le_refl _
  | succ k ih =>
    by_cases h : inLine (H k) x
    · rw [keysTo_yes h]; simp; exact ih
    · rw [keysTo_no h]; omega
/-- Those that hold rise. -/
def Rises (N : Nat) (H : Nat → Line) : Prop := ∀ i, i < N → ∀ k, k < (H i).n → 0 < k → (H i).T (k - 1) < (H i).T k
theorem rises_of {N : Nat} {K : Nat → Int} {H Q : Nat → Line} (h : GoodI N K H Q) : Rises N H := fun i hi k hk k0 => ((h.2.1 i hi).2.1.2 k hk).2.1 k0
theorem rises_lt {l : Line} (h : ∀ k, k < l.n → 0 < k → l.T (k - 1) < l.T k) {t : Nat} : ∀ p, t < p → p < l.n → l.T t < l.T p := by
  intro p
  induction p with
  | zero => intro h0; omega
  | succ p ih =>
    intro h1 h2
    have := h (p + 1) h2 (by omega)
    simp only [Nat.add_sub_cancel] at this
    by_cases e : t = p
    · subst e; exact this
    · have := ih (by omega) (by omega); omega

set_option maxHeartbeats 1600000 in
set_option maxRecDepth 100000 in
theorem keysHeld_any (ao : Option Addr) (N c : Nat) (K : Nat → Int) (H Q : Nat → Line) (x : Int) (w : World) (hN : N ≤ 1048576) (hs : ShortTo N H Q 1048576) (hr : Rises N H) (hx : LocksAt w ao N K H Q) :
    Calls Try.prog 39 #[.slice ao N c, .int .i64 x] w fun e w' => (∃ v, e = .returned v ∧ WaitsIs w' w.heap.size v (keysTo K H x N)) ∧ Below w.heap.size w w' := by
  obtain ⟨j0, ji, jz0, jz1, jz2⟩ := info_parts Try.infoInt
  have HS : Hid (ShortTo N H Q 1048576) := hs
  have HR : Hid (Rises N H) := hr
  clear hs hr
  go_enter Try.func39, Try.ntmps39
  go_wp2
  go_loopw [5, 12] (fun v i wr => ∃ k : Nat, k ≤ N ∧ i = .int .i64 k ∧ WaitsIs wr w.heap.size v (keysTo K H x k) ∧ Below w.heap.size w wr) (fun _ i _ => N - (intOf i).toNat)
  case atStart => exact ⟨0, Nat.zero_le _, rfl, WaitsIs.nil _ _, Below.refl _ _⟩
  case round =>
    obtain ⟨k, hk, rfl, hwt, hbel⟩ := hrel
    have hle := keysTo_le K H x k
    by_cases hlt : k < N
    · obtain ⟨b, off, ha, hc, qa, qc, rfl, h1, h2, h3, l1, l2, _, _⟩ := hx k hlt
      have hb := World.block_lt_of_cell? w _ h1
      have d1 := (hbel.cell (p := ⟨b, off + k * 3, none⟩) hb).trans h1
      have d2 := (hbel.cell (p := ⟨b, off + k * 3 + 1, none⟩) hb).trans h2
      have d3 := (hbel.cell (p := ⟨b, off + k * 3 + 2, none⟩) hb).trans h3
      have s1 := (HS.out k hlt).1
      have hbel0 := push hbel (.cells #[.int .i64 (K k), .slice ha (H k).n hc, .slice qa (Q k).n qc] 60)
      have hwt0 := hwt.below (push (Below.refl _ wr) (.cells #[.int .i64 (K k), .slice ha (H k).n hc, .slice qa (Q k).n qc] 60))
      have hbox0 := heap_alloc_new wr (.cells #[.int .i64 (K k), .slice ha (H k).n hc, .slice qa (Q k).n qc] 60)
      clear h1 h2 h3
      go_wp2
      go_loopw [5, 19] (fun v i wr2 => ∃ (p : Nat) (ks : List Int), p ≤ (H k).n ∧ i = .int .i64 p ∧ WaitsIs wr2 w.heap.size v ks ∧ ks.length ≤ k + 1 ∧ ((∃ t, t < p ∧ (H k).T t = x) → ks = keysTo K H x k ++ [K k]) ∧ ((¬ ∃ t, t < p ∧ (H k).T t = x) → ks = keysTo K H x k) ∧
          wr2.heap[wr.heap.size]? = some (.cells #[.int .i64 (K k), .slice ha (H k).n hc, .slice qa (Q k).n qc] 60 (0, 0)) ∧ Below w.heap.size w wr2) (fun _ i _ => (H k).n - (intOf i).toNat)
      case atStart => exact ⟨0, _, Nat.zero_le _, rfl, hwt0, by omega, fun ⟨t, ht, _⟩ => by omega, fun _ => rfl, hbox0, hbel0⟩
      case round =>
        clear hbel0 hbel d1 d2 d3 hwt hwt0 hbox0
        obtain ⟨p, ks, hp, rfl, hwt, hkl, hyes, hno, hbox, hbel⟩ := hrel
        have HY : Hid ((∃ t, t < p ∧ (H k).T t = x) → ks = keysTo K H x k ++ [K k]) := hyes
        have HN : Hid ((¬ ∃ t, t < p ∧ (H k).T t = x) → ks = keysTo K H x k) := hno
        clear hyes hno
        by_cases hlp : p < (H k).n
        · obtain ⟨b2, off2, rfl, g1, g2⟩ := l1 p hlp
          have hb2 := World.block_lt_of_cell? w _ g1
          have t1 := (hbel.cell (p := ⟨b2, off2 + p * 2, none⟩) hb2).trans g1
          have t2 := (hbel.cell (p := ⟨b2, off2 + p * 2 + 1, none⟩) hb2).trans g2
          clear g1 g2
          by_cases he : (H k).T p = x
          · have HE : Hid ((H k).T p = x) := he
            have hne : ((H k).T p == x) = true := by simpa using he
            have HB : Hid (¬ ∃ t, t < p ∧ (H k).T t = x) := by
              rintro ⟨t, ht, e⟩
              have := rises_lt (HR.out k hlt) p ht hlp
              omega
            have hks : ks = keysTo K H x k := HN.out HB.out
            have HK : Hid (ks = keysTo K H x k) := hks
            clear he hks
            have q0 := blk_cell (blk_alloc hbox (.cells #[.int .i64 ((H k).T p), .bool ((H k).S p)] 57)) 0 _ rfl
            have hsz := hbel.size
            have hwt1 := hwt.below (push (Below.refl _ wr) (.cells #[.int .i64 ((H k).T p), .bool ((H k).S p)] 57))
            go_wp2_with (first | (at_builtin; refine wpList_append_lies _ (by rfl) (.tmp 27) (.tmp 30) 33 (by rfl) w.heap.size 3 j0 (.int .i64 0) 1 8 Try.underlying33 ji jz0 jz1 jz2 rfl (by decide) _ ks.length (cellsI ks) (by rfl) (hwt1.alloc _) ⟨wr.heap.size + 1, 0, none⟩ 1 1 [.int .i64 (K k)] (by rfl) (by rfl) (World.news_of_block (by simpa using heap_alloc_new (wr.alloc _) _)) (by intro u hu; simp at hu; subst hu; rfl) (by decide) (by unfold maxLen; omega) (by omega) (by simp; omega) _ rfl ?_; intro g cap w6 hown6 hgrow hat hlt6))
            go_roundw
            case rel =>
              refine ⟨p + 1, ks ++ [K k], by omega, by go_num, ?_, ?_, fun _ => by rw [HK.out], fun h => absurd ⟨p, by omega, HE.out⟩ h, ?_, ?_⟩
              · unfold WaitsIs; rw [cellsI_snoc, List.length_append]; exact hown6
              · rw [List.length_append, HK.out]; simp; omega
              · exact grown_blk hgrow (blk_alloc (blk_alloc hbox _) _) (box_not_row (blk_alloc hbox (.cells #[.int .i64 ((H k).T p), .bool ((H k).S p)] 57)) hwt1 (by decide))
              · exact (push (push hbel _) _).grown hgrow (by simp; omega) (fun j hj => (hwt.lt j hj).1)
            case measure => simp [intOf]; omega
          · have HE : Hid ((H k).T p ≠ x) := he
            have hne : ((H k).T p == x) = false := by simpa using he
            clear he
            go_wp2
            go_roundw
            case rel =>
              refine ⟨p + 1, ks, by omega, by go_num, hwt.below (push (Below.refl _ _) _), hkl, fun ⟨t, ht, e⟩ => HY.out ⟨t, ?_, e⟩, fun h => HN.out (fun ⟨t, ht, e⟩ => h ⟨t, by omega, e⟩), blk_alloc hbox _, push hbel _⟩
              have : t ≠ p := by rintro rfl; exact HE.out e
              omega
            case measure => simp [intOf]; omega
        · obtain rfl : p = (H k).n := by omega
          go_wp2
          go_roundw
          case rel =>
            refine ⟨k + 1, by omega, by go_num, ?_, hbel⟩
            by_cases h : inLine (H k) x
            · rw [keysTo_yes h, ← HY.out h]; exact hwt
            · rw [keysTo_no h, ← HN.out h]; exact hwt
          case measure => simp [intOf]; omega
    · obtain rfl : k = N := by omega
      go_wp2
      go_ret
      exact ⟨⟨_, rfl, hwt⟩, hbel⟩

end Go.Proofs.Ytdmkpflphjemoaa
