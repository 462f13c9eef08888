/-
  OWN TEXT: contracts of spec.KeysOf, impl.keysHeld, impl.KeysOf.
-/
import Derived.Test.YtbmaiidpeafkjagSpecL2
import Derived.Test.YtbmaiidpeafkjagImplL2
namespace Go.Proofs.Ytbmaiidpeafkjag
open Go.RowKit

open Classical in
/-- The keys of those of the first k locks that x holds. -/
noncomputable def keysTo (K : Nat → Int) (H : Nat → Line) (x : Int) : Nat → List Int
  | 0 => []
  | k + 1 => if inLine (H k) x then keysTo K H x k ++ [K k] else keysTo K H x k
theorem keysTo_yes {K : Nat → Int} {H : Nat → Line} {x : Int} {k : Nat} (h : inLine (H k) x) : keysTo K H x (k + 1) = keysTo K H x k ++ [K k] := by rw [keysTo, if_pos h]
theorem keysTo_no {K : Nat → Int} {H : Nat → Line} {x : Int} {k : Nat} (h : ¬ inLine (H k) x) : keysTo K H x (k + 1) = keysTo K H x k := by rw [keysTo, if_neg h]
theorem keysTo_le (K : Nat → Int) (H : Nat → Line) (x : Int) (k : Nat) : (keysTo K H x k).length ≤ k := by
  induction k with
  | zero => exact Nat.le_refl _
  | succ k ih =>
    by_cases h : inLine (H k) x
    · rw [keysTo_yes h]; simp; exact ih
    · rw [keysTo_no h]; omega
/-- Those that hold rise. -/
def Rises (N : Nat) (H : Nat → Line) : Prop := ∀ i, i < N → ∀ k, k < (H i).n → 0 < k → (H i).T (k - 1) < (H i).T k
theorem rises_of {N : Nat} {K : Nat → Int} {H Q : Nat → Line} (h : GoodI N K H Q) : Rises N H := fun i hi k hk k0 => ((h.2.1 i hi).2.1.2 k hk).2.1 k0
theorem rises_lt {l : Line} (h : ∀ k, k < l.n → 0 < k → l.T (k - 1) < l.T k) {t : Nat} : ∀ p, t < p → p < l.n → l.T t < l.T p := by
  intro p
  induction p with
  | zero => intro h0; omega
  | succ p ih =>
    intro h1 h2
    have := h (p + 1) h2 (by omega)
    simp only [Nat.add_sub_cancel] at this
    by_cases e : t = p
    · subst e; exact this
    · have := ih (by omega) (by omega); omega

set_option maxHeartbeats 1600000 in
set_option maxRecDepth 100000 in
theorem keysHeld_any (ao : Option Addr) (N c : Nat) (K : Nat → Int) (H Q : Nat → Line) (x : Int) (w : World) (hN : N ≤ 1048576) (hs : ShortTo N H Q 1048576) (hr : Rises N H) (hx : LocksAt w ao N K H Q) :
    Calls Try.prog 42 #[.slice ao N c, .int .i64 x] w fun e w' => (∃ v, e = .returned v ∧ WaitsIs w' w.heap.size v (keysTo K H x N)) ∧ Below w.heap.size w w' := by
  obtain ⟨j0, ji, jz0, jz1, jz2⟩ := info_parts Try.infoInt
  have HS : Hid (ShortTo N H Q 1048576) := hs
  have HR : Hid (Rises N H) := hr
  clear hs hr
  go_enter Try.func42, Try.ntmps42
  go_wp2
  go_loopw [5, 12] (fun v i wr => ∃ k : Nat, k ≤ N ∧ i = .int .i64 k ∧ WaitsIs wr w.heap.size v (keysTo K H x k) ∧ Below w.heap.size w wr) (fun _ i _ => N - (intOf i).toNat)
  case atStart => exact ⟨0, Nat.zero_le _, rfl, WaitsIs.nil _ _, Below.refl _ _⟩
  case round =>
    obtain ⟨k, hk, rfl, hwt, hbel⟩ := hrel
    have hle := keysTo_le K H x k
    by_cases hlt : k < N
    · obtain ⟨b, off, ha, hc, qa, qc, rfl, h1, h2, h3, l1, l2, _, _⟩ := hx k hlt
      have hb := World.block_lt_of_cell? w _ h1
      have d1 := (hbel.cell (p := ⟨b, off + k * 3, none⟩) hb).trans h1
      have d2 := (hbel.cell (p := ⟨b, off + k * 3 + 1, none⟩) hb).trans h2
      have d3 := (hbel.cell (p := ⟨b, off + k * 3 + 2, none⟩) hb).trans h3
      have s1 := (HS.out k hlt).1
      have hbel0 := push hbel (.cells #[.int .i64 (K k), .slice ha (H k).n hc, .slice qa (Q k).n qc] 52)
      have hwt0 := hwt.below (push (Below.refl _ wr) (.cells #[.int .i64 (K k), .slice ha (H k).n hc, .slice qa (Q k).n qc] 52))
      have hbox0 := heap_alloc_new wr (.cells #[.int .i64 (K k), .slice ha (H k).n hc, .slice qa (Q k).n qc] 52)
      clear h1 h2 h3
      go_wp2
      go_loopw [5, 19] (fun v i wr2 => ∃ (p : Nat) (ks : List Int), p ≤ (H k).n ∧ i = .int .i64 p ∧ WaitsIs wr2 w.heap.size v ks ∧ ks.length ≤ k + 1 ∧ ((∃ t, t < p ∧ (H k).T t = x) → ks = keysTo K H x k ++ [K k]) ∧ ((¬ ∃ t, t < p ∧ (H k).T t = x) → ks = keysTo K H x k) ∧
          wr2.heap[wr.heap.size]? = some (.cells #[.int .i64 (K k), .slice ha (H k).n hc, .slice qa (Q k).n qc] 52 (0, 0)) ∧ Below w.heap.size w wr2) (fun _ i _ => (H k).n - (intOf i).toNat)
      case atStart => exact ⟨0, _, Nat.zero_le _, rfl, hwt0, by omega, fun ⟨t, ht, _⟩ => by omega, fun _ => rfl, hbox0, hbel0⟩
      case round =>
        clear hbel0 hbel d1 d2 d3 hwt hwt0 hbox0
        obtain ⟨p, ks, hp, rfl, hwt, hkl, hyes, hno, hbox, hbel⟩ := hrel
        have HY : Hid ((∃ t, t < p ∧ (H k).T t = x) → ks = keysTo K H x k ++ [K k]) := hyes
        have HN : Hid ((¬ ∃ t, t < p ∧ (H k).T t = x) → ks = keysTo K H x k) := hno
        clear hyes hno
        by_cases hlp : p < (H k).n
        · obtain ⟨b2, off2, rfl, g1, g2⟩ := l1 p hlp
          have hb2 := World.block_lt_of_cell? w _ g1
          have t1 := (hbel.cell (p := ⟨b2, off2 + p * 2, none⟩) hb2).trans g1
          have t2 := (hbel.cell (p := ⟨b2, off2 + p * 2 + 1, none⟩) hb2).trans g2
          clear g1 g2
          by_cases he : (H k).T p = x
          · have HE : Hid ((H k).T p = x) := he
            have hne : ((H k).T p == x) = true := by simpa using he
            have HB : Hid (¬ ∃ t, t < p ∧ (H k).T t = x) := by
              rintro ⟨t, ht, e⟩
              have := rises_lt (HR.out k hlt) p ht hlp
              omega
            have hks : ks = keysTo K H x k := HN.out HB.out
            have HK : Hid (ks = keysTo K H x k) := hks
            clear he hks
            have q0 := blk_cell (blk_alloc hbox (.cells #[.int .i64 ((H k).T p), .bool ((H k).S p)] 66)) 0 _ rfl
            have hsz := hbel.size
            have hwt1 := hwt.below (push (Below.refl _ wr) (.cells #[.int .i64 ((H k).T p), .bool ((H k).S p)] 66))
            go_wp2_with (first | (at_builtin; refine wpList_append_lies _ (by rfl) (.tmp 27) (.tmp 30) 25 (by rfl) w.heap.size 3 j0 (.int .i64 0) 1 8 Try.underlying25 ji jz0 jz1 jz2 rfl (by decide) _ ks.length (cellsI ks) (by rfl) (hwt1.alloc _) ⟨wr.heap.size + 1, 0, none⟩ 1 1 [.int .i64 (K k)] (by rfl) (by rfl) (World.news_of_block (by simpa using heap_alloc_new (wr.alloc _) _)) (by intro u hu; simp at hu; subst hu; rfl) (by decide) (by unfold maxLen; omega) (by omega) (by simp; omega) _ rfl ?_; intro g cap w6 hown6 hgrow hat hlt6))
            go_roundw
            case rel =>
              refine ⟨p + 1, ks ++ [K k], by omega, by go_num, ?_, ?_, fun _ => by rw [HK.out], fun h => absurd ⟨p, by omega, HE.out⟩ h, ?_, ?_⟩
              · unfold WaitsIs; rw [cellsI_snoc, List.length_append]; exact hown6
              · rw [List.length_append, HK.out]; simp; omega
              · exact grown_blk hgrow (blk_alloc (blk_alloc hbox _) _) (box_not_row (blk_alloc hbox (.cells #[.int .i64 ((H k).T p), .bool ((H k).S p)] 66)) hwt1 (by decide))
              · exact (push (push hbel _) _).grown hgrow (by simp; omega) (fun j hj => (hwt.lt j hj).1)
            case measure => simp [intOf]; omega
          · have HE : Hid ((H k).T p ≠ x) := he
            have hne : ((H k).T p == x) = false := by simpa using he
            clear he
            go_wp2
            go_roundw
            case rel =>
              refine ⟨p + 1, ks, by omega, by go_num, hwt.below (push (Below.refl _ _) _), hkl, fun ⟨t, ht, e⟩ => HY.out ⟨t, ?_, e⟩, fun h => HN.out (fun ⟨t, ht, e⟩ => h ⟨t, by omega, e⟩), blk_alloc hbox _, push hbel _⟩
              have : t ≠ p := by rintro rfl; exact HE.out e
              omega
            case measure => simp [intOf]; omega
        · obtain rfl : p = (H k).n := by omega
          go_wp2
          go_roundw
          case rel =>
            refine ⟨k + 1, by omega, by go_num, ?_, hbel⟩
            by_cases h : inLine (H k) x
            · rw [keysTo_yes h, ← HY.out h]; exact hwt
            · rw [keysTo_no h, ← HN.out h]; exact hwt
          case measure => simp [intOf]; omega
    · obtain rfl : k = N := by omega
      go_wp2
      go_ret
      exact ⟨⟨_, rfl, hwt⟩, hbel⟩

/-- What KeysOf answers. -/
def KeysAns (P : Prop) (l : List Int) (ks : List Int) (ok : Bool) : Prop := (P → ks = l ∧ ok = true) ∧ (¬ P → ks = [] ∧ ok = false)
theorem keysAns_one {P P' : Prop} {l ks ks' : List Int} {ok ok' : Bool} (hp : P ↔ P') (h : KeysAns P l ks ok) (h' : KeysAns P' l ks' ok') : ks' = ks ∧ ok' = ok := by
  by_cases p : P
  · obtain ⟨rfl, rfl⟩ := h.1 p
    exact h'.1 (hp.1 p)
  · obtain ⟨rfl, rfl⟩ := h.2 p
    exact h'.2 (fun e => p (hp.2 e))

theorem keysAns_len {P : Prop} {l ks : List Int} {ok : Bool} {n : Nat} (h : KeysAns P l ks ok) (hl : l.length ≤ n) : ks.length ≤ n := by
  by_cases p : P
  · rw [(h.1 p).1]; exact hl
  · rw [(h.2 p).1]; exact Nat.zero_le _
theorem keysOf_le (N : Nat) (K : Nat → Int) (H _Q : Nat → Line) (x : Int) : (keysTo K H x N).length ≤ N := keysTo_le K H x N

set_option maxHeartbeats 800000 in
theorem implKeys_any (ao : Option Addr) (N c : Nat) (K : Nat → Int) (H Q : Nat → Line) (x : Int) (w : World) (hN : N ≤ 1048576) (hs : ShortTo N H Q 1048576) (hx : LocksAt w ao N K H Q) :
    Calls Try.prog 19 #[.slice ao N c, .int .i64 x] w fun e w' => (∃ v ok ks, e = .returned (.tuple #[v, .bool ok]) ∧ WaitsIs w' w.heap.size v ks ∧ Hid (KeysAns (GoodI N K H Q ∧ isTask x) (keysTo K H x N) ks ok)) ∧ Below w.heap.size w w' := by
  have HS : Hid (ShortTo N H Q 1048576) := hs
  clear hs
  go_enter Try.func19, Try.ntmps19
  go_wp2_with fail
  refine (implLocks_any ao N c K H Q _ HS.out (by omega) hx).mono ?_
  rintro e w1 ⟨⟨v, rfl, hv⟩, hb1⟩
  have HV : Hid (v = true ↔ GoodI N K H Q) := hv
  clear hv
  cases v with
  | false =>
    have HG : Hid (¬ GoodI N K H Q) := fun h => by have := HV.out.2 h; cases this
    go_wp2
    exact bodyPost_ret (v := .tuple #[.slice none 0 0, .bool false]) (by simp [results, Try.results19, go_sem]) rfl ⟨⟨_, false, [], rfl, WaitsIs.nil _ _, ⟨fun h => absurd h.1 HG.out, fun _ => ⟨rfl, rfl⟩⟩⟩, hb1⟩
  | true =>
    have HG : Hid (GoodI N K H Q) := HV.out.1 rfl
    clear HV
    by_cases ht : isTask x
    · go_wp2_with (first | (go_at_call 33; refine (isTask_yes _ _ ht).mono ?_; rintro e w' ⟨rfl, hw'⟩; have hw1 := hw'.symm; subst hw1))
      refine (keysHeld_any ao N c K H Q x _ hN HS.out (rises_of HG.out) (hx.below hb1)).mono ?_
      rintro e w2 ⟨⟨v, rfl, hwt⟩, hb2⟩
      go_wp2
      exact bodyPost_ret (v := .tuple #[v, .bool true]) (by simp [results, Try.results19, go_sem]) rfl ⟨⟨v, true, _, rfl, own_base hwt hb1.size, ⟨fun _ => ⟨rfl, rfl⟩, fun h => absurd ⟨HG.out, ht⟩ h⟩⟩, after hb1 hb2⟩
    · have HT : Hid (¬ isTask x) := ht
      clear ht
      go_wp2_with (first | (go_at_call 33; refine (isTask_no _ _ HT.out).mono ?_; rintro e w' ⟨rfl, hw'⟩; have hw1 := hw'.symm; subst hw1))
      exact bodyPost_ret (v := .tuple #[.slice none 0 0, .bool false]) (by simp [results, Try.results19, go_sem]) rfl ⟨⟨_, false, [], rfl, WaitsIs.nil _ _, ⟨fun h => absurd h.2 HT.out, fun _ => ⟨rfl, rfl⟩⟩⟩, hb1⟩

set_option maxHeartbeats 1600000 in
set_option maxRecDepth 100000 in
theorem specKeys_any (ao : Option Addr) (N c : Nat) (K : Nat → Int) (H Q : Nat → Line) (x : Int) (w : World) (hN : N ≤ 1048576) (hcap : N ≤ c) (hs : ShortTo N H Q 1048576) (hx : LocksAt w ao N K H Q) :
    Calls Try.prog 18 #[.slice ao N c, .int .i64 x] w fun e w' => (∃ v ok ks, e = .returned (.tuple #[v, .bool ok]) ∧ WaitsIs w' w.heap.size v ks ∧ Hid (KeysAns (GoodL N K H Q ∧ isTask x) (keysTo K H x N) ks ok)) ∧ Below w.heap.size w w' := by
  obtain ⟨j0, ji, jz0, jz1, jz2⟩ := info_parts Try.infoInt
  have HS : Hid (ShortTo N H Q 1048576) := hs
  clear hs
  go_enter Try.func18, Try.ntmps18
  go_wp2_with fail
  refine (specLocks_any ao N c K H Q _ HS.out hcap hx).mono ?_
  rintro e w1 ⟨⟨v, rfl, hv⟩, hb1⟩
  have HV : Hid (v = true ↔ GoodL N K H Q) := hv
  clear hv
  cases v with
  | false =>
    have HG : Hid (¬ GoodL N K H Q) := fun h => by have := HV.out.2 h; cases this
    go_wp2
    exact bodyPost_ret (v := .tuple #[.slice none 0 0, .bool false]) (by simp [results, Try.results18, go_sem]) rfl ⟨⟨_, false, [], rfl, WaitsIs.nil _ _, ⟨fun h => absurd h.1 HG.out, fun _ => ⟨rfl, rfl⟩⟩⟩, hb1⟩
  | true =>
    have HG : Hid (GoodL N K H Q) := HV.out.1 rfl
    clear HV
    by_cases ht : isTask x
    · have HT : Hid (isTask x) := ht
      clear ht
      go_wp2_with (first | (go_at_call 28; refine (l2Task_yes _ _ HT.out).mono ?_; rintro e w' ⟨rfl, hw'⟩; have hw1 := hw'.symm; subst hw1))
      go_loopw [6, 19] (fun v i wr => ∃ k : Nat, k ≤ N ∧ i = .int .i64 k ∧ WaitsIs wr w.heap.size v (keysTo K H x k) ∧ Below w.heap.size w wr) (fun _ i _ => N - (intOf i).toNat)
      case atStart => exact ⟨0, Nat.zero_le _, rfl, WaitsIs.nil _ _, hb1⟩
      case round =>
        clear hb1
        obtain ⟨k, hk, rfl, hwt, hbel⟩ := hrel
        have hle := keysTo_le K H x k
        by_cases hlt : k < N
        · obtain ⟨b, off, ha, hc, qa, qc, rfl, h1, h2, h3, l1, l2, _, _⟩ := hx k hlt
          have hb := World.block_lt_of_cell? w _ h1
          have d1 := (hbel.cell (p := ⟨b, off + k * 3, none⟩) hb).trans h1
          have d2 := (hbel.cell (p := ⟨b, off + k * 3 + 1, none⟩) hb).trans h2
          have d3 := (hbel.cell (p := ⟨b, off + k * 3 + 2, none⟩) hb).trans h3
          have s1 := (HS.out k hlt).1
          have hbel0 := push hbel (.cells #[.int .i64 (K k), .slice ha (H k).n hc, .slice qa (Q k).n qc] 52)
          have hwt0 := hwt.below (push (Below.refl _ wr) (.cells #[.int .i64 (K k), .slice ha (H k).n hc, .slice qa (Q k).n qc] 52))
          have hbox0 := heap_alloc_new wr (.cells #[.int .i64 (K k), .slice ha (H k).n hc, .slice qa (Q k).n qc] 52)
          have l1' := l1.below hbel0
          clear h1 h2 h3
          by_cases hin : inLine (H k) x
          · have HI : Hid (inLine (H k) x) := hin
            clear hin
            go_wp2_with (first | (go_at_call 41; refine (l2In_yes _ _ _ (H k) _ _ rfl s1 l1' HI.out).mono ?_; rintro e w2 ⟨r, rfl, _, hb2⟩; have q0 := blk_cell (blk_below hbox0 hb2) 0 _ rfl; have hwt2 := hwt0.below hb2; have hbel2 := after hbel0 hb2; have hsz2 := hbel2.size) | (at_builtin; refine wpList_append_lies _ (by rfl) (.tmp 28) (.tmp 31) 25 (by rfl) w.heap.size 3 j0 (.int .i64 0) 1 8 Try.underlying25 ji jz0 jz1 jz2 rfl (by decide) _ (keysTo K H x k).length (cellsI (keysTo K H x k)) (by rfl) (hwt2.alloc _) ⟨w2.heap.size, 0, none⟩ 1 1 [.int .i64 (K k)] (by rfl) (by rfl) (World.news_of_block (heap_alloc_new w2 _)) (by intro u hu; simp at hu; subst hu; rfl) (by decide) (by unfold maxLen; omega) (by omega) (by simp; omega) _ rfl ?_; intro g cap w6 hown6 hgrow hat hlt6))
            go_roundw
            case rel =>
              refine ⟨k + 1, by omega, by go_num, ?_, (push hbel2 _).grown hgrow (by simp; omega) (fun j hj => (hwt.lt j hj).1)⟩
              rw [keysTo_yes HI.out]; unfold WaitsIs; rw [cellsI_snoc, List.length_append]; exact hown6
            case measure => simp [intOf]; omega
          · have HI : Hid (¬ inLine (H k) x) := hin
            clear hin
            go_wp2_with (first | (go_at_call 41; refine (l2In_no _ _ _ (H k) _ _ rfl s1 l1' HI.out).mono ?_; rintro e w2 ⟨rfl, hb2⟩))
            go_roundw
            case rel => exact ⟨k + 1, by omega, by go_num, by rw [keysTo_no HI.out]; exact hwt0.below hb2, after hbel0 hb2⟩
            case measure => simp [intOf]; omega
        · obtain rfl : k = N := by omega
          go_wp2
          exact bodyPost_ret (v := .tuple #[_, .bool true]) (by simp [results, Try.results18, go_sem]) rfl ⟨⟨_, true, _, rfl, hwt, ⟨fun _ => ⟨rfl, rfl⟩, fun h => absurd ⟨HG.out, HT.out⟩ h⟩⟩, hbel⟩
    · have HT : Hid (¬ isTask x) := ht
      clear ht
      go_wp2_with (first | (go_at_call 28; refine (l2Task_no _ _ HT.out).mono ?_; rintro e w' ⟨rfl, hw'⟩; have hw1 := hw'.symm; subst hw1))
      exact bodyPost_ret (v := .tuple #[.slice none 0 0, .bool false]) (by simp [results, Try.results18, go_sem]) rfl ⟨⟨_, false, [], rfl, WaitsIs.nil _ _, ⟨fun h => absurd h.2 HT.out, fun _ => ⟨rfl, rfl⟩⟩⟩, hb1⟩

end Go.Proofs.Ytbmaiidpeafkjag
