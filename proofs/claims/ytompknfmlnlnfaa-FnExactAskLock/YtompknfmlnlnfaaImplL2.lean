/-
  OWN TEXT: contracts of the program's goodQueue, waitInOrder, GoodLocks.
-/
import Derived.Test.YtompknfmlnlnfaaImplL1
namespace Go.Proofs.Ytompknfmlnlnfaa
open Go.RowKit

/-- Whether j is among the numbers ws. -/
def inB (ws : List Int) (j : Nat) : Bool := decide ((j : Int) ∈ ws)
theorem inB_snoc (ws : List Int) (q j : Nat) : inB (ws ++ [(q : Int)]) j = if j = q then true else inB ws j := by
  unfold inB
  by_cases e : j = q
  · subst e; simp
  · rw [if_neg e]
    have : ¬ (j : Int) = (q : Int) := by omega
    simp [this]
theorem inB_true {ws : List Int} {j : Nat} : inB ws j = true ↔ (j : Int) ∈ ws := by simp [inB]
theorem inB_false {ws : List Int} {j : Nat} : inB ws j = false ↔ (j : Int) ∉ ws := by simp [inB]

/-- Twelve marks, none set. -/
theorem marks_none (w : World) (t : Nat) : (w.alloc (.cells #[.bool false, .bool false, .bool false, .bool false, .bool false, .bool false, .bool false, .bool false, .bool false, .bool false, .bool false, .bool false] t)).rowIs w.heap.size t 12 (fun j => .bool (inB [] j)) := by
  have := World.rowIs_alloc w #[.bool false, .bool false, .bool false, .bool false, .bool false, .bool false, .bool false, .bool false, .bool false, .bool false, .bool false, .bool false] t (fun j => .bool (inB [] j)) (by
    intro i hi
    have h12 : i < 12 := hi
    have hc : i = 0 ∨ i = 1 ∨ i = 2 ∨ i = 3 ∨ i = 4 ∨ i = 5 ∨ i = 6 ∨ i = 7 ∨ i = 8 ∨ i = 9 ∨ i = 10 ∨ i = 11 := by omega
    rcases hc with rfl | rfl | rfl | rfl | rfl | rfl | rfl | rfl | rfl | rfl | rfl | rfl <;> rfl)
  simpa using this

set_option maxHeartbeats 1600000 in
set_option maxRecDepth 100000 in
theorem goodQueue_any (ao bo : Option Addr) (n m c1 c2 : Nat) (h q : Line) (w : World) (e1 : h.n = n) (e2 : q.n = m) (hn : n ≤ 1048576) (hm : m ≤ 1048576) (hgood : heldI h) (hx : LineAt w ao h) (hy : LineAt w bo q) :
    Calls Try.prog 47 #[.slice ao n c1, .slice bo m c2] w fun e w' => SaysIf (queueI h q) e ∧ Below w.heap.size w w' := by
  have E1 : Hid (h.n = n) := e1
  have E2 : Hid (q.n = m) := e2
  have HG : Hid (heldI h) := hgood
  clear e1 e2 hgood
  go_enter Try.func47, Try.ntmps47
  go_wp2
  go_loopw [12] (fun i wr => ∃ k : Nat, k ≤ n ∧ i = .int .i64 k ∧ wr.rowIs w.heap.size 99 12 (fun j => .bool (inB (tasks h k) j)) ∧ Below w.heap.size w wr) (fun i _ => n - (intOf i).toNat)
  case atStart => exact ⟨0, Nat.zero_le _, rfl, marks_none w _, push (Below.refl _ _) _⟩
  case round =>
    obtain ⟨k, hk, rfl, hrow, hbel⟩ := hrel
    have hlt0 := hrow.lt
    by_cases hlt : k < n
    · obtain ⟨b, off, rfl, h1, h2⟩ := hx k (by rw [E1.out]; omega)
      have hb := World.block_lt_of_cell? w _ h1
      have d1 := (hbel.cell (p := ⟨b, off + k * 2, none⟩) hb).trans h1
      have d2 := (hbel.cell (p := ⟨b, off + k * 2 + 1, none⟩) hb).trans h2
      clear h1 h2
      have HT : Hid (isTask (h.T k)) := (HG.out.2 k (by rw [E1.out]; exact hlt)).1
      obtain ⟨t, ht⟩ := Int.eq_ofNat_of_zero_le HT.out.1
      have ht12 : t < 12 := by have := HT.out.2; omega
      have HE : Hid (h.T k = (t : Int)) := ht
      rw [ht] at d1
      clear ht HT
      have i1 : (t : Int) < 12 := by omega
      have r2 := hrow.alloc (.cells #[.int .i64 (t : Int), .bool (h.S k)] 65)
      have o1 := r2.cell (i := t) ht12
      have f1 := r2.frozen t
      go_wp2
      go_roundw
      case rel =>
        refine ⟨k + 1, by omega, by go_num, ((hrow.set t _).alloc _).congr (fun j _ => ?_), push (hbel.setCell (Nat.le_refl _) _) _⟩
        rw [tasks_succ, HE.out, inB_snoc]
        by_cases e : j = t
        · rw [if_pos e, if_pos e]
        · rw [if_neg e, if_neg e]
      case measure => simp [intOf]; omega
    · obtain rfl : k = n := by omega
      go_wp2
      go_loopw [22] (fun i wr' => ∃ j : Nat, j ≤ m ∧ i = .int .i64 j ∧ (∀ t, t < j → isTask (q.T t) ∧ ¬ inLine h (q.T t)) ∧ wr'.rowIs w.heap.size 99 12 (fun j => .bool (inB (tasks h k) j)) ∧ Below w.heap.size w wr') (fun i _ => m - (intOf i).toNat)
      case atStart => exact ⟨0, Nat.zero_le _, rfl, fun t ht => by omega, hrow, hbel⟩
      case round =>
        clear hrow hbel hlt0
        obtain ⟨j, hj, rfl, hall, hrow, hbel⟩ := hrel
        have HA : Hid (∀ t, t < j → isTask (q.T t) ∧ ¬ inLine h (q.T t)) := hall
        clear hall
        by_cases hlm : j < m
        · obtain ⟨b, off, rfl, h1, h2⟩ := hy j (by rw [E2.out]; omega)
          have hb := World.block_lt_of_cell? w _ h1
          have d1 := (hbel.cell (p := ⟨b, off + j * 2, none⟩) hb).trans h1
          have d2 := (hbel.cell (p := ⟨b, off + j * 2 + 1, none⟩) hb).trans h2
          clear h1 h2
          by_cases ht : isTask (q.T j)
          · obtain ⟨t, et⟩ := Int.eq_ofNat_of_zero_le ht.1
            have ht12 : t < 12 := by have := ht.2; omega
            have HE : Hid (q.T j = (t : Int)) := et
            have HT : Hid (isTask (q.T j)) := ht
            rw [et] at d1
            have ht' : isTask (t : Int) := by rw [← et]; exact ht
            clear et ht
            have i1 : (t : Int) < 12 := by omega
            have r2 := hrow.alloc (.cells #[.int .i64 (t : Int), .bool (q.S j)] 65)
            have o1 := r2.cell (i := t) ht12
            by_cases hin : (t : Int) ∈ tasks h k
            · have b1 : inB (tasks h k) t = true := inB_true.2 hin
              have HI : Hid (inLine h (q.T j)) := by
                obtain ⟨p, hp, e⟩ := (mem_tasks h k _).1 hin
                exact ⟨p, by rw [E1.out]; exact hp, by rw [HE.out]; exact e⟩
              rw [b1] at o1
              clear hin
              go_wp2_with (first | (go_at_call 30; refine (isTask_yes _ _ ht').mono ?_; rintro e w' ⟨rfl, rfl⟩))
              go_ret
              exact ⟨says_no (fun hq => (hq.1 j (by rw [E2.out]; exact hlm)).2 HI.out), push hbel _⟩
            · have b1 : inB (tasks h k) t = false := inB_false.2 hin
              have HI : Hid (¬ inLine h (q.T j)) := by
                rintro ⟨p, hp, e⟩
                exact hin ((mem_tasks h k _).2 ⟨p, by rw [E1.out] at hp; exact hp, by rw [← HE.out]; exact e⟩)
              rw [b1] at o1
              clear hin
              go_wp2_with (first | (go_at_call 30; refine (isTask_yes _ _ ht').mono ?_; rintro e w' ⟨rfl, rfl⟩))
              go_roundw
              case rel => exact ⟨j + 1, by omega, by go_num, fun t' ht' => by
                by_cases e : t' = j
                · subst e; exact ⟨HT.out, HI.out⟩
                · exact HA.out t' (by omega), r2, push hbel _⟩
              case measure => simp [intOf]; omega
          · have HT : Hid (¬ isTask (q.T j)) := ht
            clear ht
            go_wp2_with (first | (go_at_call 30; refine (isTask_no _ _ HT.out).mono ?_; rintro e w' ⟨rfl, rfl⟩))
            go_ret
            exact ⟨says_no (fun hq => HT.out (hq.1 j (by rw [E2.out]; exact hlm)).1), push hbel _⟩
        · obtain rfl : j = m := by omega
          by_cases hm0 : j = 0
          · subst hm0
            go_wp2
            go_ret
            exact ⟨says_yes ⟨fun t ht => by rw [E2.out] at ht; omega, fun h0 => by rw [E2.out] at h0; omega⟩, hbel⟩
          · obtain ⟨b, off, rfl, h1, h2⟩ := hy 0 (by rw [E2.out]; omega)
            have hb := World.block_lt_of_cell? w _ h1
            have d1 := (hbel.cell (p := ⟨b, off + 0 * 2, none⟩) hb).trans h1
            have d2 := (hbel.cell (p := ⟨b, off + 0 * 2 + 1, none⟩) hb).trans h2
            simp only [Nat.zero_mul, Nat.add_zero] at d1 d2
            clear h1 h2
            have e0 : ((j : Int) == 0) = false := by simpa using (show ¬ (j : Int) = 0 by omega)
            have i0 : (0 : Int) < (j : Int) := by omega
            cases hmay : mayB h (q.S 0) with
            | true =>
              go_wp2_with (first | (go_at_call 63; refine (mayHold_any _ _ _ h _ _ _ E1.out (hx.below hbel)).mono ?_; rintro e w3 ⟨rfl, hb3⟩; rw [hmay]))
              go_ret
              exact ⟨says_no (fun hq => by have := hq.2 (by rw [E2.out]; omega); rw [hmay] at this; cases this), after hbel hb3⟩
            | false =>
              go_wp2_with (first | (go_at_call 63; refine (mayHold_any _ _ _ h _ _ _ E1.out (hx.below hbel)).mono ?_; rintro e w3 ⟨rfl, hb3⟩; rw [hmay]))
              go_ret
              exact ⟨says_yes ⟨fun t ht => HA.out t (by rw [E2.out] at ht; exact ht), fun _ => hmay⟩, after hbel hb3⟩

/-- All that hold or wait are tasks. -/
def AllTasks (N : Nat) (H Q : Nat → Line) : Prop := ∀ i, i < N → (∀ k, k < (H i).n → isTask ((H i).T k)) ∧ (∀ j, j < (Q i).n → isTask ((Q i).T j))
def orderAt (H Q : Nat → Line) (i : Nat) : Prop := (∀ k, k < (H i).n → (H i).T k ∉ waited Q i) ∧ (∀ j, j < (Q i).n → (Q i).T j ∉ waited Q i ++ tasks (Q i) j)

set_option maxHeartbeats 1600000 in
set_option maxRecDepth 100000 in
theorem waitInOrder_any (ao : Option Addr) (N c : Nat) (K : Nat → Int) (H Q : Nat → Line) (w : World) (hN : N ≤ 60) (hs : ShortTo N H Q 1048576) (hat : AllTasks N H Q) (hx : LocksAt w ao N K H Q) :
    Calls Try.prog 48 #[.slice ao N c] w fun e w' => SaysIf (orderI N H Q) e ∧ Below w.heap.size w w' := by
  have HS : Hid (ShortTo N H Q 1048576) := hs
  have HT : Hid (AllTasks N H Q) := hat
  clear hs hat
  go_enter Try.func48, Try.ntmps48
  go_wp2
  go_loopw [12] (fun i wr => ∃ k : Nat, k ≤ N ∧ i = .int .i64 k ∧ (∀ i, i < k → orderAt H Q i) ∧ wr.rowIs w.heap.size 99 12 (fun j => .bool (inB (waited Q k) j)) ∧ Below w.heap.size w wr) (fun i _ => N - (intOf i).toNat)
  case atStart => exact ⟨0, Nat.zero_le _, rfl, fun i hi => by omega, marks_none w _, push (Below.refl _ _) _⟩
  case round =>
    obtain ⟨k, hk, rfl, hall, hrow, hbel⟩ := hrel
    have HA : Hid (∀ i, i < k → orderAt H Q i) := hall
    clear hall
    by_cases hlt : k < N
    · obtain ⟨b, off, ha, hc, qa, qc, rfl, h1, h2, h3, l1, l2, _, _⟩ := hx k hlt
      have hb := World.block_lt_of_cell? w _ h1
      have d1 := (hbel.cell (p := ⟨b, off + k * 3, none⟩) hb).trans h1
      have d2 := (hbel.cell (p := ⟨b, off + k * 3 + 1, none⟩) hb).trans h2
      have d3 := (hbel.cell (p := ⟨b, off + k * 3 + 2, none⟩) hb).trans h3
      have s1 := (HS.out k hlt).1
      have s2 := (HS.out k hlt).2
      clear h1 h2 h3
      have hbox0 := heap_alloc_new wr (.cells #[.int .i64 (K k), .slice ha (H k).n hc, .slice qa (Q k).n qc] 68)
      have hrow0 := hrow.alloc (.cells #[.int .i64 (K k), .slice ha (H k).n hc, .slice qa (Q k).n qc] 68)
      have hbel0 := push hbel (.cells #[.int .i64 (K k), .slice ha (H k).n hc, .slice qa (Q k).n qc] 68)
      have hrl := hrow.lt
      go_wp2
      go_loopw [19] (fun i wr2 => ∃ p : Nat, p ≤ (H k).n ∧ i = .int .i64 p ∧ (∀ t, t < p → (H k).T t ∉ waited Q k) ∧ wr2.heap[wr.heap.size]? = some (.cells #[.int .i64 (K k), .slice ha (H k).n hc, .slice qa (Q k).n qc] 68 (0, 0)) ∧ wr2.rowIs w.heap.size 99 12 (fun j => .bool (inB (waited Q k) j)) ∧ Below w.heap.size w wr2) (fun i _ => (H k).n - (intOf i).toNat)
      case atStart => exact ⟨0, Nat.zero_le _, rfl, fun i hi => by omega, hbox0, hrow0, hbel0⟩
      case round =>
        clear hbox0 hrow0 hbel0 hrow hbel d1 d2 d3
        obtain ⟨p, hp, rfl, hpre, hbox, hrow, hbel⟩ := hrel
        have HP : Hid (∀ t, t < p → (H k).T t ∉ waited Q k) := hpre
        clear hpre
        by_cases hlp : p < (H k).n
        · obtain ⟨b2, off2, rfl, g1, g2⟩ := l1 p hlp
          have hb2 := World.block_lt_of_cell? w _ g1
          have t1 := (hbel.cell (p := ⟨b2, off2 + p * 2, none⟩) hb2).trans g1
          have t2 := (hbel.cell (p := ⟨b2, off2 + p * 2 + 1, none⟩) hb2).trans g2
          clear g1 g2
          obtain ⟨t, et⟩ := Int.eq_ofNat_of_zero_le ((HT.out k hlt).1 p hlp).1
          have ht12 : t < 12 := by have := ((HT.out k hlt).1 p hlp).2; omega
          have HE : Hid ((H k).T p = (t : Int)) := et
          rw [et] at t1
          clear et
          have i1 : (t : Int) < 12 := by omega
          have r2 := hrow.alloc (.cells #[.int .i64 (t : Int), .bool ((H k).S p)] 65)
          have o1 := r2.cell (i := t) ht12
          by_cases hin : (t : Int) ∈ waited Q k
          · have b1 : inB (waited Q k) t = true := inB_true.2 hin
            rw [b1] at o1
            have HI : Hid ((t : Int) ∈ waited Q k) := hin
            clear hin
            go_wp2
            go_ret
            exact ⟨says_no (fun h => (h k hlt).1 p hlp (by rw [HE.out]; exact HI.out)), push hbel _⟩
          · have b1 : inB (waited Q k) t = false := inB_false.2 hin
            rw [b1] at o1
            have HI : Hid ((t : Int) ∉ waited Q k) := hin
            clear hin
            go_wp2
            go_roundw
            case rel => exact ⟨p + 1, by omega, by go_num, fun t' ht' => by
              by_cases e : t' = p
              · subst e; rw [HE.out]; exact HI.out
              · exact HP.out t' (by omega), blk_alloc hbox _, r2, push hbel _⟩
            case measure => simp [intOf]; omega
        · obtain rfl : p = (H k).n := by omega
          have q2 := blk_cell hbox 2 _ rfl
          go_wp2
          go_loopw [31] (fun i wr3 => ∃ j : Nat, j ≤ (Q k).n ∧ i = .int .i64 j ∧ (∀ t, t < j → (Q k).T t ∉ waited Q k ++ tasks (Q k) t) ∧ wr3.rowIs w.heap.size 99 12 (fun x => .bool (inB (waited Q k ++ tasks (Q k) j) x)) ∧ Below w.heap.size w wr3) (fun i _ => (Q k).n - (intOf i).toNat)
          case atStart => exact ⟨0, Nat.zero_le _, rfl, fun i hi => by omega, by simpa [tasks] using hrow, hbel⟩
          case round =>
            clear hbox hrow hbel q2
            obtain ⟨j, hj, rfl, hpre, hrow, hbel⟩ := hrel
            have HJ : Hid (∀ t, t < j → (Q k).T t ∉ waited Q k ++ tasks (Q k) t) := hpre
            clear hpre
            have hrl2 := hrow.lt
            by_cases hlj : j < (Q k).n
            · obtain ⟨b2, off2, rfl, g1, g2⟩ := l2 j hlj
              have hb2 := World.block_lt_of_cell? w _ g1
              have t1 := (hbel.cell (p := ⟨b2, off2 + j * 2, none⟩) hb2).trans g1
              have t2 := (hbel.cell (p := ⟨b2, off2 + j * 2 + 1, none⟩) hb2).trans g2
              clear g1 g2
              obtain ⟨t, et⟩ := Int.eq_ofNat_of_zero_le ((HT.out k hlt).2 j hlj).1
              have ht12 : t < 12 := by have := ((HT.out k hlt).2 j hlj).2; omega
              have HE : Hid ((Q k).T j = (t : Int)) := et
              rw [et] at t1
              clear et
              have i1 : (t : Int) < 12 := by omega
              have r2 := hrow.alloc (.cells #[.int .i64 (t : Int), .bool ((Q k).S j)] 65)
              have o1 := r2.cell (i := t) ht12
              have f1 := r2.frozen t
              by_cases hin : (t : Int) ∈ waited Q k ++ tasks (Q k) j
              · have b1 : inB (waited Q k ++ tasks (Q k) j) t = true := inB_true.2 hin
                rw [b1] at o1
                have HI : Hid ((t : Int) ∈ waited Q k ++ tasks (Q k) j) := hin
                clear hin
                go_wp2
                go_ret
                exact ⟨says_no (fun h => (h k hlt).2 j hlj (by rw [HE.out]; exact HI.out)), push hbel _⟩
              · have b1 : inB (waited Q k ++ tasks (Q k) j) t = false := inB_false.2 hin
                rw [b1] at o1
                have HI : Hid ((t : Int) ∉ waited Q k ++ tasks (Q k) j) := hin
                clear hin
                go_wp2
                go_roundw
                case rel =>
                  refine ⟨j + 1, by omega, by go_num, fun t' ht' => ?_, ((hrow.set t _).alloc _).congr (fun x _ => ?_), push (hbel.setCell (Nat.le_refl _) _) _⟩
                  · by_cases e : t' = j
                    · subst e; rw [HE.out]; exact HI.out
                    · exact HJ.out t' (by omega)
                  · rw [tasks_succ, HE.out, ← List.append_assoc, inB_snoc]
                    by_cases e : x = t
                    · rw [if_pos e, if_pos e]
                    · rw [if_neg e, if_neg e]
                case measure => simp [intOf]; omega
            · obtain rfl : j = (Q k).n := by omega
              go_wp2
              go_roundw
              case rel => exact ⟨k + 1, by omega, by go_num, fun i hi => by
                by_cases e : i = k
                · subst e; exact ⟨HP.out, HJ.out⟩
                · exact HA.out i (by omega), hrow, hbel⟩
              case measure => simp [intOf]; omega
    · obtain rfl : k = N := by omega
      go_wp2
      go_ret
      exact ⟨says_yes HA.out, hbel⟩

theorem allTasks_of {N : Nat} {K : Nat → Int} {H Q : Nat → Line} (h : ∀ i, i < N → keyOk K i ∧ heldI (H i) ∧ queueI (H i) (Q i)) : AllTasks N H Q :=
  fun i hi => ⟨fun k hk => ((h i hi).2.1.2 k hk).1, fun j hj => ((h i hi).2.2.1 j hj).1⟩

set_option maxHeartbeats 1600000 in
set_option maxRecDepth 100000 in
theorem implLocks_any (ao : Option Addr) (N c : Nat) (K : Nat → Int) (H Q : Nat → Line) (w : World) (hs : ShortTo N H Q 1048576) (hc1 : N ≤ 1000000000000000) (hx : LocksAt w ao N K H Q) :
    Calls Try.prog 11 #[.slice ao N c] w fun e w' => SaysIf (GoodI N K H Q) e ∧ Below w.heap.size w w' := by
  have HS : Hid (ShortTo N H Q 1048576) := hs
  clear hs
  by_cases h60 : N ≤ 60
  · go_enter Try.func11, Try.ntmps11
    go_wp2
    go_loopg [10] N (fun g i wr => ∃ k : Nat, k ≤ N ∧ g = N - k ∧ i = .int .i64 k ∧ (∀ i, i < k → keyOk K i ∧ heldI (H i) ∧ queueI (H i) (Q i)) ∧ Below w.heap.size w wr)
    case atStart => exact ⟨0, Nat.zero_le _, rfl, rfl, fun i hi => by omega, Below.refl _ _⟩
    case round =>
      obtain ⟨k, hk, rfl, rfl, hall, hbel⟩ := hrel
      have HA : Hid (∀ i, i < k → keyOk K i ∧ heldI (H i) ∧ queueI (H i) (Q i)) := hall
      clear hall
      by_cases hlt : k < N
      · rcases locks_in hx with h0 | ⟨b, off, ha, qa, hc, qc, rfl, hbw, hin⟩
        · omega
        · obtain ⟨h1, h2, h3, l1, l2, _, _⟩ := hin k hlt
          have d1 := (hbel.cell (p := ⟨b, off + k * 3, none⟩) hbw).trans h1
          have d2 := (hbel.cell (p := ⟨b, off + k * 3 + 1, none⟩) hbw).trans h2
          have d3 := (hbel.cell (p := ⟨b, off + k * 3 + 2, none⟩) hbw).trans h3
          have HP : Hid (0 < k → w.cell? ⟨b, off + (k - 1) * 3, none⟩ = some (.int .i64 (K (k - 1)))) := fun h => (hin (k - 1) (by omega)).1
          have s1 := (HS.out k hlt).1
          have s2 := (HS.out k hlt).2
          clear h1 h2 h3 hin
          go_upto_region 6 with fail
          go_cut [10, 33] (fun i c wx => i = .int .i64 k ∧ Tells (keyOk K k) c ∧ wx.heap[wr.heap.size]? = some (.cells #[.int .i64 (K k), .slice (ha k) (H k).n (hc k), .slice (qa k) (Q k).n (qc k)] 68 (0, 0)) ∧ Below wr.heap.size wr wx)
          case first =>
            by_cases ht : isKeyI (K k)
            · by_cases k0 : k = 0
              · subst k0
                go_quiet (first | (go_at_call 31; refine Calls.quiet_of_same (isKey_yes _ _ ht)))
                go_wp2
                go_meet
                exact ⟨rfl, tells_good ⟨ht.1, ht.2, fun h => by omega⟩, heap_alloc_new wr _, below_drewN (push (Below.refl _ _) _) _⟩
              · have d0 : decide (0 < k) = true := by simp; omega
                have hk2 : ((k : Int) - 1).toNat = k - 1 := by omega
                have hk3 : (k : Int) - 1 < (N : Int) := by omega
                have hk4 : (0 : Int) ≤ (k : Int) - 1 := by omega
                have hk5 : IntKind.i64.wrap ((k : Int) - 1) = (k : Int) - 1 := by rw [IntKind.wrap_i64]; omega
                have p1 := ((push hbel (.cells #[.int .i64 (K k), .slice (ha k) (H k).n (hc k), .slice (qa k) (Q k).n (qc k)] 68)).cell (p := ⟨b, off + (k - 1) * 3, none⟩) hbw).trans (HP.out (by omega))
                by_cases hle : K k ≤ K (k - 1)
                · have e2 : decide (K k ≤ K (k - 1)) = true := by simpa using hle
                  go_quiet (first | (go_at_call 31; refine Calls.quiet_of_same (isKey_yes _ _ ht)))
                  go_wp2
                  go_meet
                  exact ⟨rfl, tells_bad (fun h => by have := h.2.2 (by omega); omega), heap_alloc_new wr _, below_drewN (push (Below.refl _ _) _) _⟩
                · have e2 : decide (K k ≤ K (k - 1)) = false := by simpa using hle
                  go_quiet (first | (go_at_call 31; refine Calls.quiet_of_same (isKey_yes _ _ ht)))
                  go_wp2
                  go_meet
                  exact ⟨rfl, tells_good ⟨ht.1, ht.2, fun _ => by omega⟩, heap_alloc_new wr _, below_drewN (push (Below.refl _ _) _) _⟩
            · go_quiet (first | (go_at_call 31; refine Calls.quiet_of_same (isKey_no _ _ ht)))
              go_wp2
              go_meet
              exact ⟨rfl, tells_bad (fun h => ht ⟨h.1, h.2.1⟩), heap_alloc_new wr _, below_drewN (push (Below.refl _ _) _) _⟩
          case rest =>
            obtain ⟨rfl, ⟨t, rfl, ht⟩, hbox, hbx⟩ := hcut
            have HT : Hid (t = false ↔ keyOk K k) := ht
            clear ht
            have hbel2 := after hbel hbx
            clear hbx d1 d2 d3 HP
            have q1 := blk_cell hbox 1 _ rfl
            cases t with
            | true =>
              go_wp2
              go_ret
              exact ⟨says_no (fun h => by have := HT.out.2 (h.2.1 k hlt).1; cases this), hbel2⟩
            | false =>
              have HK : Hid (keyOk K k) := HT.out.1 rfl
              go_wp2_with fail
              refine (goodHeld_any _ _ _ (H k) _ rfl s1 (l1.below hbel2)).mono ?_
              rintro e w3 ⟨⟨v, rfl, hv⟩, hb3⟩
              have HV : Hid (v = true ↔ heldI (H k)) := hv
              clear hv q1
              have hbox3 := blk_below hbox hb3
              have hbel3 := after hbel2 hb3
              clear hbox hbel2 hb3
              have q1 := blk_cell hbox3 1 _ rfl
              have q2 := blk_cell hbox3 2 _ rfl
              cases v with
              | false =>
                go_wp2
                go_ret
                exact ⟨says_no (fun h => by have := HV.out.2 (h.2.1 k hlt).2.1; cases this), hbel3⟩
              | true =>
                have HH : Hid (heldI (H k)) := HV.out.1 rfl
                go_wp2_with fail
                refine (goodQueue_any _ _ _ _ _ _ (H k) (Q k) _ rfl rfl s1 s2 HH.out (l1.below hbel3) (l2.below hbel3)).mono ?_
                rintro e w4 ⟨⟨v, rfl, hv⟩, hb4⟩
                have HW : Hid (v = true ↔ queueI (H k) (Q k)) := hv
                clear hv
                cases v with
                | false =>
                  go_wp2
                  go_ret
                  exact ⟨says_no (fun h => by have := HW.out.2 (h.2.1 k hlt).2.2; cases this), after hbel3 hb4⟩
                | true =>
                  have HX : Hid (queueI (H k) (Q k)) := HW.out.1 rfl
                  go_wp2
                  go_roundg (N - (k + 1))
                  case measure => omega
                  case rel => exact ⟨k + 1, by omega, rfl, by go_num, fun i hi => by
                    by_cases e : i = k
                    · subst e; exact ⟨HK.out, HH.out, HX.out⟩
                    · exact HA.out i (by omega), after hbel3 hb4⟩
      · obtain rfl : k = N := by omega
        go_wp2_with fail
        refine (waitInOrder_any ao k c K H Q _ h60 HS.out (allTasks_of HA.out) (hx.below hbel)).mono ?_
        rintro e w4 ⟨⟨v, rfl, hv⟩, hb4⟩
        have HW : Hid (v = true ↔ orderI k H Q) := hv
        clear hv
        cases v with
        | false =>
          go_wp2
          go_ret
          exact ⟨says_no (fun h => by have := HW.out.2 h.2.2; cases this), after hbel hb4⟩
        | true =>
          have HX : Hid (orderI k H Q) := HW.out.1 rfl
          go_wp2
          go_ret
          exact ⟨says_yes ⟨h60, HA.out, HX.out⟩, after hbel hb4⟩
  · go_enter Try.func11, Try.ntmps11
    go_wp2
    go_ret
    exact ⟨says_no (fun h => by have := h.1; omega), Below.refl _ _⟩

end Go.Proofs.Ytompknfmlnlnfaa
