/-
  OWN TEXT (first part): contracts of spec.KeysOf, impl.keysHeld, impl.KeysOf.
-/
import Derived.Test.YtompknfmlnlnfaaSpecL2
import Derived.Test.YtompknfmlnlnfaaImplL2
namespace Go.Proofs.Ytompknfmlnlnfaa
open Go.RowKit

open Classical in
/-- The keys of those of the first k locks that x holds. -/
noncomputable def keysTo (K : Nat → Int) (H : Nat → Line) (x : Int) : Nat → List Int
  | 0 => []
  | k + 1 => if inLine (H k) x then keysTo K H x k ++ [K k] else keysTo K H x k
theorem keysTo_yes {K : Nat → Int} {H : Nat → Line} {x : Int} {k : Nat} (h : inLine (H k) x) : keysTo K H x (k + 1) = keysTo K H x k ++ [K k] := by rw [keysTo, if_pos h]
theorem keysTo_no {K : Nat → Int} {H : Nat → Line} {x : Int} {k : Nat} (h : ¬ inLine (H k) x) : keysTo K H x (k + 1) = keysTo K H x k := by rw [keysTo, if_neg h]
theorem keysTo_le (K : Nat → Int) (H : Nat → Line) (x : Int) (k : Nat) : (keysTo K H x k).length ≤ k := by
  induction k with
  | zero => exact Nat.le_refl _
  | succ k ih =>
    by_cases h : inLine (H k) x
    · rw [keysTo_yes h]; simp; exact ih
    · rw [keysTo_no h]; omega
/-- Those that hold rise. -/
def Rises (N : Nat) (H : Nat → Line) : Prop := ∀ i, i < N → ∀ k, k < (H i).n → 0 < k → (H i).T (k - 1) < (H i).T k
theorem rises_of {N : Nat} {K : Nat → Int} {H Q : Nat → Line} (h : GoodI N K H Q) : Rises N H := fun i hi k hk k0 => ((h.2.1 i hi).2.1.2 k hk).2.1 k0
theorem rises_lt {l : Line} (h : ∀ k, k < l.n → 0 < k → l.T (k - 1) < l.T k) {t : Nat} : ∀ p, t < p → p < l.n → l.T t < l.T p := by
  intro p
  induction p with
  | zero => intro h0; omega
  | succ p ih =>
    intro h1 h2
    have := h (p + 1) h2 (by omega)
    simp only [Nat.add_sub_cancel] at this
    by_cases e : t = p
    · subst e; exact this
    · have := ih (by omega) (by omega); omega

set_option maxHeartbeats 1600000 in
set_option maxRecDepth 100000 in
theorem keysHeld_any (ao : Option Addr) (N c : Nat) (K : Nat → Int) (H Q : Nat → Line) (x : Int) (w : World) (hN : N ≤ 1048576) (hs : ShortTo N H Q 1048576) (hr : Rises N H) (hx : LocksAt w ao N K H Q) :
    Calls Try.prog 49 #[.slice ao N c, .int .i64 x] w fun e w' => (∃ v, e = .returned v ∧ WaitsIs w' w.heap.size v (keysTo K H x N)) ∧ Below w.heap.size w w' := by
  obtain ⟨j0, ji, jz0, jz1, jz2⟩ := info_parts Try.infoInt
  have HS : Hid (ShortTo N H Q 1048576) := hs
  have HR : Hid (Rises N H) := hr
  clear hs hr
  go_enter Try.func49, Try.ntmps49
  go_wp2
  go_loopw [5, 12] (fun v i wr => ∃ k : Nat, k ≤ N ∧ i = .int .i64 k ∧ WaitsIs wr w.heap.size v (keysTo K H x k) ∧ Below w.heap.size w wr) (fun _ i _ => N - (intOf i).toNat)
  case atStart => exact ⟨0, Nat.zero_le _, rfl, WaitsIs.nil _ _, Below.refl _ _⟩
  case round =>
    obtain ⟨k, hk, rfl, hwt, hbel⟩ := hrel
    have hle := keysTo_le K H x k
    by_cases hlt : k < N
    · obtain ⟨b, off, ha, hc, qa, qc, rfl, h1, h2, h3, l1, l2, _, _⟩ := hx k hlt
      have hb := World.block_lt_of_cell? w _ h1
      have d1 := (hbel.cell (p := ⟨b, off + k * 3, none⟩) hb).trans h1
      have d2 := (hbel.cell (p := ⟨b, off + k * 3 + 1, none⟩) hb).trans h2
      have d3 := (hbel.cell (p := ⟨b, off + k * 3 + 2, none⟩) hb).trans h3
      have s1 := (HS.out k hlt).1
      have hbel0 := push hbel (.cells #[.int .i64 (K k), .slice ha (H k).n hc, .slice qa (Q k).n qc] 68)
      have hwt0 := hwt.below (push (Below.refl _ wr) (.cells #[.int .i64 (K k), .slice ha (H k).n hc, .slice qa (Q k).n qc] 68))
      have hbox0 := heap_alloc_new wr (.cells #[.int .i64 (K k), .slice ha (H k).n hc, .slice qa (Q k).n qc] 68)
      clear h1 h2 h3
      go_wp2
      go_loopw [5, 19] (fun v i wr2 => ∃ (p : Nat) (ks : List Int), p ≤ (H k).n ∧ i = .int .i64 p ∧ WaitsIs wr2 w.heap.size v ks ∧ ks.length ≤ k + 1 ∧ ((∃ t, t < p ∧ (H k).T t = x) → ks = keysTo K H x k ++ [K k]) ∧ ((¬ ∃ t, t < p ∧ (H k).T t = x) → ks = keysTo K H x k) ∧
          wr2.heap[wr.heap.size]? = some (.cells #[.int .i64 (K k), .slice ha (H k).n hc, .slice qa (Q k).n qc] 68 (0, 0)) ∧ Below w.heap.size w wr2) (fun _ i _ => (H k).n - (intOf i).toNat)
      case atStart => exact ⟨0, _, Nat.zero_le _, rfl, hwt0, by omega, fun ⟨t, ht, _⟩ => by omega, fun _ => rfl, hbox0, hbel0⟩
      case round =>
        clear hbel0 hbel d1 d2 d3 hwt hwt0 hbox0
        obtain ⟨p, ks, hp, rfl, hwt, hkl, hyes, hno, hbox, hbel⟩ := hrel
        have HY : Hid ((∃ t, t < p ∧ (H k).T t = x) → ks = keysTo K H x k ++ [K k]) := hyes
        have HN : Hid ((¬ ∃ t, t < p ∧ (H k).T t = x) → ks = keysTo K H x k) := hno
        clear hyes hno
        by_cases hlp : p < (H k).n
        · obtain ⟨b2, off2, rfl, g1, g2⟩ := l1 p hlp
          have hb2 := World.block_lt_of_cell? w _ g1
          have t1 := (hbel.cell (p := ⟨b2, off2 + p * 2, none⟩) hb2).trans g1
          have t2 := (hbel.cell (p := ⟨b2, off2 + p * 2 + 1, none⟩) hb2).trans g2
          clear g1 g2
          by_cases he : (H k).T p = x
          · have HE : Hid ((H k).T p = x) := he
            have hne : ((H k).T p == x) = true := by simpa using he
            have HB : Hid (¬ ∃ t, t < p ∧ (H k).T t = x) := by
              rintro ⟨t, ht, e⟩
              have := rises_lt (HR.out k hlt) p ht hlp
              omega
            have hks : ks = keysTo K H x k := HN.out HB.out
            have HK : Hid (ks = keysTo K H x k) := hks
            clear he hks
            have q0 := blk_cell (blk_alloc hbox (.cells #[.int .i64 ((H k).T p), .bool ((H k).S p)] 65)) 0 _ rfl
            have hsz := hbel.size
            have hwt1 := hwt.below (push (Below.refl _ wr) (.cells #[.int .i64 ((H k).T p), .bool ((H k).S p)] 65))
            go_wp2_with (first | (at_builtin; refine wpList_append_lies _ (by rfl) (.tmp 27) (.tmp 30) 33 (by rfl) w.heap.size 3 j0 (.int .i64 0) 1 8 Try.underlying33 ji jz0 jz1 jz2 rfl (by decide) _ ks.length (cellsI ks) (by rfl) (hwt1.alloc _) ⟨wr.heap.size + 1, 0, none⟩ 1 1 [.int .i64 (K k)] (by rfl) (by rfl) (World.news_of_block (by simpa using heap_alloc_new (wr.alloc _) _)) (by intro u hu; simp at hu; subst hu; rfl) (by decide) (by unfold maxLen; omega) (by omega) (by simp; omega) _ rfl ?_; intro g cap w6 hown6 hgrow hat hlt6))
            go_roundw
            case rel =>
              refine ⟨p + 1, ks ++ [K k], by omega, by go_num, ?_, ?_, fun _ => by rw [HK.out], fun h => absurd ⟨p, by omega, HE.out⟩ h, ?_, ?_⟩
              · unfold WaitsIs; rw [cellsI_snoc, List.length_append]; exact hown6
              · rw [List.length_append, HK.out]; simp; omega
              · exact grown_blk hgrow (blk_alloc (blk_alloc hbox _) _) (box_not_row (blk_alloc hbox (.cells #[.int .i64 ((H k).T p), .bool ((H k).S p)] 65)) hwt1 (by decide))
              · exact (push (push hbel _) _).grown hgrow (by simp; omega) (fun j hj => (hwt.lt j hj).1)
            case measure => simp [intOf]; omega
          · have HE : Hid ((H k).T p ≠ x) := he
            have hne : ((H k).T p == x) = false := by simpa using he
            clear he
            go_wp2
            go_roundw
            case rel =>
              refine ⟨p + 1, ks, by omega, by go_num, hwt.below (push (Below.refl _ _) _), hkl, fun ⟨t, ht, e⟩ => HY.out ⟨t, ?_, e⟩, fun h => HN.out (fun ⟨t, ht, e⟩ => h ⟨t, by omega, e⟩), blk_alloc hbox _, push hbel _⟩
              have : t ≠ p := by rintro rfl; exact HE.out e
              omega
            case measure => simp [intOf]; omega
        · obtain rfl : p = (H k).n := by omega
          go_wp2
          go_roundw
          case rel =>
            refine ⟨k + 1, by omega, by go_num, ?_, hbel⟩
            by_cases h : inLine (H k) x
            · rw [keysTo_yes h, ← HY.out h]; exact hwt
            · rw [keysTo_no h, ← HN.out h]; exact hwt
          case measure => simp [intOf]; omega
    · obtain rfl : k = N := by omega
      go_wp2
      go_ret
      exact ⟨⟨_, rfl, hwt⟩, hbel⟩

end Go.Proofs.Ytompknfmlnlnfaa
