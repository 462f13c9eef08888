/-
  OWN TEXT: ImplL2, SortI.
-/
import Derived.Deep.LoopGhost
import Derived.Test.YtdmkpflphjemoaaB10
import Derived.Test.YtdmkpflphjemoaaB04
import Derived.Test.YtdmkpflphjemoaaB05
namespace Go.Proofs.Ytdmkpflphjemoaa
open Go.RowKit

/-- Whether j is among the numbers ws. -/
def inB (ws : List Int) (j : Nat) : Bool := decide ((j : Int) ∈ ws)
theorem inB_snoc (ws : List Int) (q j : Nat) : inB (ws ++ [(q : Int)]) j = if j = q then true else inB ws j := by
  unfold inB
  by_cases e : j = q
  · subst e; simp
  · rw [if_neg e]
    have : ¬ (j : Int) = (q : Int) := by omega
    simp [this]
theorem inB_true {ws : List Int} {j : Nat} : inB ws j = true ↔ (j : Int) ∈ ws := by simp [inB]
theorem inB_false {ws : List Int} {j : Nat} : inB ws j = false ↔ (j : Int) ∉ ws := by simp [inB]

/-- Twelve marks, none set. -/
theorem marks_none (w : World) (t : Nat) : (w.alloc (.cells #[.bool false, .bool false, .bool false, .bool false, .bool false, .bool false, .bool false, .bool false, .bool false, .bool false, .bool false, .bool false] t)).rowIs w.heap.size t 12 (fun j => .bool (inB [] j)) := by
  have := World.rowIs_alloc w #[.bool false, .bool false, .bool false, .bool false, .bool false, .bool false, .bool false, .bool false, .bool false, .bool false, .bool false, .bool false] t (fun j => .bool (inB [] j)) (by
    intro i hi
    have h12 : i < 12 := hi
    have hc : i = 0 ∨ i = 1 ∨ i = 2 ∨ i = 3 ∨ i = 4 ∨ i = 5 ∨ i = 6 ∨ i = 7 ∨ i = 8 ∨ i = 9 ∨ i = 10 ∨ i = 11 := by omega
    rcases hc with rfl | rfl | rfl | rfl | rfl | rfl | rfl | rfl | rfl | rfl | rfl | rfl <;> rfl)
  simpa using this

set_option maxHeartbeats 1600000 in
set_option maxRecDepth 100000 in
theorem goodQueue_any (ao bo : Option Addr) (n m c1 c2 : Nat) (h q : Line) (w : World) (e1 : h.n = n) (e2 : q.n = m) (hn : n ≤ 1048576) (hm : m ≤ 1048576) (hgood : heldI h) (hx : LineAt w ao h) (hy : LineAt w bo q) :
    Calls Try.prog 37 #[.slice ao n c1, .slice bo m c2] w fun e w' => SaysIf (queueI h q) e ∧ Below w.heap.size w w' := by
  have E1 : Hid (h.n = n) := e1
  have E2 : Hid (q.n = m) := e2
  have HG : Hid (heldI h) := hgood
  clear e1 e2 hgood
  go_enter Try.func37, Try.ntmps37
  go_wp2
  go_loopw [12] (fun i wr => ∃ k : Nat, k ≤ n ∧ i = .int .i64 k ∧ wr.rowIs w.heap.size 86 12 (fun j => .bool (inB (tasks h k) j)) ∧ Below w.heap.size w wr) (fun i _ => n - (intOf i).toNat)
  case atStart => exact ⟨0, Nat.zero_le _, rfl, marks_none w _, push (Below.refl _ _) _⟩
  case round =>
    obtain ⟨k, hk, rfl, hrow, hbel⟩ := hrel
    have hlt0 := hrow.lt
    by_cases hlt : k < n
    · obtain ⟨b, off, rfl, h1, h2⟩ := hx k (by rw [E1.out]; omega)
      have hb := World.block_lt_of_cell? w _ h1
      have d1 := (hbel.cell (p := ⟨b, off + k * 2, none⟩) hb).trans h1
      have d2 := (hbel.cell (p := ⟨b, off + k * 2 + 1, none⟩) hb).trans h2
      clear h1 h2
      have HT : Hid (isTask (h.T k)) := (HG.out.2 k (by rw [E1.out]; exact hlt)).1
      obtain ⟨t, ht⟩ := Int.eq_ofNat_of_zero_le HT.out.1
      have ht12 : t < 12 := by have := HT.out.2; omega
      have HE : Hid (h.T k = (t : Int)) := ht
      rw [ht] at d1
      clear ht HT
      have i1 : (t : Int) < 12 := by omega
      have r2 := hrow.alloc (.cells #[.int .i64 (t : Int), .bool (h.S k)] 57)
      have o1 := r2.cell (i := t) ht12
      have f1 := r2.frozen t
      go_wp2
      go_roundw
      case rel =>
        refine ⟨k + 1, by omega, by go_num, ((hrow.set t _).alloc _).congr (fun j _ => ?_), push (hbel.setCell (Nat.le_refl _) _) _⟩
        rw [tasks_succ, HE.out, inB_snoc]
        by_cases e : j = t
        · rw [if_pos e, if_pos e]
        · rw [if_neg e, if_neg e]
      case measure => simp [intOf]; omega
    · obtain rfl : k = n := by omega
      go_wp2
      go_loopw [22] (fun i wr' => ∃ j : Nat, j ≤ m ∧ i = .int .i64 j ∧ (∀ t, t < j → isTask (q.T t) ∧ ¬ inLine h (q.T t)) ∧ wr'.rowIs w.heap.size 86 12 (fun j => .bool (inB (tasks h k) j)) ∧ Below w.heap.size w wr') (fun i _ => m - (intOf i).toNat)
      case atStart => exact ⟨0, Nat.zero_le _, rfl, fun t ht => by omega, hrow, hbel⟩
      case round =>
        clear hrow hbel hlt0
        obtain ⟨j, hj, rfl, hall, hrow, hbel⟩ := hrel
        have HA : Hid (∀ t, t < j → isTask (q.T t) ∧ ¬ inLine h (q.T t)) := hall
        clear hall
        by_cases hlm : j < m
        · obtain ⟨b, off, rfl, h1, h2⟩ := hy j (by rw [E2.out]; omega)
          have hb := World.block_lt_of_cell? w _ h1
          have d1 := (hbel.cell (p := ⟨b, off + j * 2, none⟩) hb).trans h1
          have d2 := (hbel.cell (p := ⟨b, off + j * 2 + 1, none⟩) hb).trans h2
          clear h1 h2
          by_cases ht : isTask (q.T j)
          · obtain ⟨t, et⟩ := Int.eq_ofNat_of_zero_le ht.1
            have ht12 : t < 12 := by have := ht.2; omega
            have HE : Hid (q.T j = (t : Int)) := et
            have HT : Hid (isTask (q.T j)) := ht
            rw [et] at d1
            have ht' : isTask (t : Int) := by rw [← et]; exact ht
            clear et ht
            have i1 : (t : Int) < 12 := by omega
            have r2 := hrow.alloc (.cells #[.int .i64 (t : Int), .bool (q.S j)] 57)
            have o1 := r2.cell (i := t) ht12
            by_cases hin : (t : Int) ∈ tasks h k
            · have b1 : inB (tasks h k) t = true := inB_true.2 hin
              have HI : Hid (inLine h (q.T j)) := by
                obtain ⟨p, hp, e⟩ := (mem_tasks h k _).1 hin
                exact ⟨p, by rw [E1.out]; exact hp, by rw [HE.out]; exact e⟩
              rw [b1] at o1
              clear hin
              go_wp2_with (first | (go_at_call 20; refine (isTask_yes _ _ ht').mono ?_; rintro e w' ⟨rfl, rfl⟩))
              go_ret
              exact ⟨says_no (fun hq => (hq.1 j (by rw [E2.out]; exact hlm)).2 HI.out), push hbel _⟩
            · have b1 : inB (tasks h k) t = false := inB_false.2 hin
              have HI : Hid (¬ inLine h (q.T j)) := by
                rintro ⟨p, hp, e⟩
                exact hin ((mem_tasks h k _).2 ⟨p, by rw [E1.out] at hp; exact hp, by rw [← HE.out]; exact e⟩)
              rw [b1] at o1
              clear hin
              go_wp2_with (first | (go_at_call 20; refine (isTask_yes _ _ ht').mono ?_; rintro e w' ⟨rfl, rfl⟩))
              go_roundw
              case rel => exact ⟨j + 1, by omega, by go_num, fun t' ht' => by
                by_cases e : t' = j
                · subst e; exact ⟨HT.out, HI.out⟩
                · exact HA.out t' (by omega), r2, push hbel _⟩
              case measure => simp [intOf]; omega
          · have HT : Hid (¬ isTask (q.T j)) := ht
            clear ht
            go_wp2_with (first | (go_at_call 20; refine (isTask_no _ _ HT.out).mono ?_; rintro e w' ⟨rfl, rfl⟩))
            go_ret
            exact ⟨says_no (fun hq => HT.out (hq.1 j (by rw [E2.out]; exact hlm)).1), push hbel _⟩
        · obtain rfl : j = m := by omega
          by_cases hm0 : j = 0
          · subst hm0
            go_wp2
            go_ret
            exact ⟨says_yes ⟨fun t ht => by rw [E2.out] at ht; omega, fun h0 => by rw [E2.out] at h0; omega⟩, hbel⟩
          · obtain ⟨b, off, rfl, h1, h2⟩ := hy 0 (by rw [E2.out]; omega)
            have hb := World.block_lt_of_cell? w _ h1
            have d1 := (hbel.cell (p := ⟨b, off + 0 * 2, none⟩) hb).trans h1
            have d2 := (hbel.cell (p := ⟨b, off + 0 * 2 + 1, none⟩) hb).trans h2
            simp only [Nat.zero_mul, Nat.add_zero] at d1 d2
            clear h1 h2
            have e0 : ((j : Int) == 0) = false := by simpa using (show ¬ (j : Int) = 0 by omega)
            have i0 : (0 : Int) < (j : Int) := by omega
            cases hmay : mayB h (q.S 0) with
            | true =>
              go_wp2_with (first | (go_at_call 48; refine (mayHold_any _ _ _ h _ _ _ E1.out (hx.below hbel)).mono ?_; rintro e w3 ⟨rfl, hb3⟩; rw [hmay]))
              go_ret
              exact ⟨says_no (fun hq => by have := hq.2 (by rw [E2.out]; omega); rw [hmay] at this; cases this), after hbel hb3⟩
            | false =>
              go_wp2_with (first | (go_at_call 48; refine (mayHold_any _ _ _ h _ _ _ E1.out (hx.below hbel)).mono ?_; rintro e w3 ⟨rfl, hb3⟩; rw [hmay]))
              go_ret
              exact ⟨says_yes ⟨fun t ht => HA.out t (by rw [E2.out] at ht; exact ht), fun _ => hmay⟩, after hbel hb3⟩

/-- All that hold or wait are tasks. -/
def AllTasks (N : Nat) (H Q : Nat → Line) : Prop := ∀ i, i < N → (∀ k, k < (H i).n → isTask ((H i).T k)) ∧ (∀ j, j < (Q i).n → isTask ((Q i).T j))
def orderAt (H Q : Nat → Line) (i : Nat) : Prop := (∀ k, k < (H i).n → (H i).T k ∉ waited Q i) ∧ (∀ j, j < (Q i).n → (Q i).T j ∉ waited Q i ++ tasks (Q i) j)

set_option maxHeartbeats 1600000 in
set_option maxRecDepth 100000 in
theorem waitInOrder_any (ao : Option Addr) (N c : Nat) (K : Nat → Int) (H Q : Nat → Line) (w : World) (hN : N ≤ 60) (hs : ShortTo N H Q 1048576) (hat : AllTasks N H Q) (hx : LocksAt w ao N K H Q) :
    Calls Try.prog 38 #[.slice ao N c] w fun e w' => SaysIf (orderI N H Q) e ∧ Below w.heap.size w w' := by
  have HS : Hid (ShortTo N H Q 1048576) := hs
  have HT : Hid (AllTasks N H Q) := hat
  clear hs hat
  go_enter Try.func38, Try.ntmps38
  go_wp2
  go_loopw [12] (fun i wr => ∃ k : Nat, k ≤ N ∧ i = .int .i64 k ∧ (∀ i, i < k → orderAt H Q i) ∧ wr.rowIs w.heap.size 86 12 (fun j => .bool (inB (waited Q k) j)) ∧ Below w.heap.size w wr) (fun i _ => N - (intOf i).toNat)
  case atStart => exact ⟨0, Nat.zero_le _, rfl, fun i hi => by omega, marks_none w _, push (Below.refl _ _) _⟩
  case round =>
    obtain ⟨k, hk, rfl, hall, hrow, hbel⟩ := hrel
    have HA : Hid (∀ i, i < k → orderAt H Q i) := hall
    clear hall
    by_cases hlt : k < N
    · obtain ⟨b, off, ha, hc, qa, qc, rfl, h1, h2, h3, l1, l2, _, _⟩ := hx k hlt
      have hb := World.block_lt_of_cell? w _ h1
      have d1 := (hbel.cell (p := ⟨b, off + k * 3, none⟩) hb).trans h1
      have d2 := (hbel.cell (p := ⟨b, off + k * 3 + 1, none⟩) hb).trans h2
      have d3 := (hbel.cell (p := ⟨b, off + k * 3 + 2, none⟩) hb).trans h3
      have s1 := (HS.out k hlt).1
      have s2 := (HS.out k hlt).2
      clear h1 h2 h3
      have hbox0 := heap_alloc_new wr (.cells #[.int .i64 (K k), .slice ha (H k).n hc, .slice qa (Q k).n qc] 60)
      have hrow0 := hrow.alloc (.cells #[.int .i64 (K k), .slice ha (H k).n hc, .slice qa (Q k).n qc] 60)
      have hbel0 := push hbel (.cells #[.int .i64 (K k), .slice ha (H k).n hc, .slice qa (Q k).n qc] 60)
      have hrl := hrow.lt
      go_wp2
      go_loopw [19] (fun i wr2 => ∃ p : Nat, p ≤ (H k).n ∧ i = .int .i64 p ∧ (∀ t, t < p → (H k).T t ∉ waited Q k) ∧ wr2.heap[wr.heap.size]? = some (.cells #[.int .i64 (K k), .slice ha (H k).n hc, .slice qa (Q k).n qc] 60 (0, 0)) ∧ wr2.rowIs w.heap.size 86 12 (fun j => .bool (inB (waited Q k) j)) ∧ Below w.heap.size w wr2) (fun i _ => (H k).n - (intOf i).toNat)
      case atStart => exact ⟨0, Nat.zero_le _, rfl, fun i hi => by omega, hbox0, hrow0, hbel0⟩
      case round =>
        clear hbox0 hrow0 hbel0 hrow hbel d1 d2 d3
        obtain ⟨p, hp, rfl, hpre, hbox, hrow, hbel⟩ := hrel
        have HP : Hid (∀ t, t < p → (H k).T t ∉ waited Q k) := hpre
        clear hpre
        by_cases hlp : p < (H k).n
        · obtain ⟨b2, off2, rfl, g1, g2⟩ := l1 p hlp
          have hb2 := World.block_lt_of_cell? w _ g1
          have t1 := (hbel.cell (p := ⟨b2, off2 + p * 2, none⟩) hb2).trans g1
          have t2 := (hbel.cell (p := ⟨b2, off2 + p * 2 + 1, none⟩) hb2).trans g2
          clear g1 g2
          obtain ⟨t, et⟩ := Int.eq_ofNat_of_zero_le ((HT.out k hlt).1 p hlp).1
          have ht12 : t < 12 := by have := ((HT.out k hlt).1 p hlp).2; omega
          have HE : Hid ((H k).T p = (t : Int)) := et
          rw [et] at t1
          clear et
          have i1 : (t : Int) < 12 := by omega
          have r2 := hrow.alloc (.cells #[.int .i64 (t : Int), .bool ((H k).S p)] 57)
          have o1 := r2.cell (i := t) ht12
          by_cases hin : (t : Int) ∈ waited Q k
          · have b1 : inB (waited Q k) t = true := inB_true.2 hin
            rw [b1] at o1
            have HI : Hid ((t : Int) ∈ waited Q k) := hin
            clear hin
            go_wp2
            go_ret
            exact ⟨says_no (fun h => (h k hlt).1 p hlp (by rw [HE.out]; exact HI.out)), push hbel _⟩
          · have b1 : inB (waited Q k) t = false := inB_false.2 hin
            rw [b1] at o1
            have HI : Hid ((t : Int) ∉ waited Q k) := hin
            clear hin
            go_wp2
            go_roundw
            case rel => exact ⟨p + 1, by omega, by go_num, fun t' ht' => by
              by_cases e : t' = p
              · subst e; rw [HE.out]; exact HI.out
              · exact HP.out t' (by omega), blk_alloc hbox _, r2, push hbel _⟩
            case measure => simp [intOf]; omega
        · obtain rfl : p = (H k).n := by omega
          have q2 := blk_cell hbox 2 _ rfl
          go_wp2
          go_loopw [31] (fun i wr3 => ∃ j : Nat, j ≤ (Q k).n ∧ i = .int .i64 j ∧ (∀ t, t < j → (Q k).T t ∉ waited Q k ++ tasks (Q k) t) ∧ wr3.rowIs w.heap.size 86 12 (fun x => .bool (inB (waited Q k ++ tasks (Q k) j) x)) ∧ Below w.heap.size w wr3) (fun i _ => (Q k).n - (intOf i).toNat)
          case atStart => exact ⟨0, Nat.zero_le _, rfl, fun i hi => by omega, by simpa [tasks] using hrow, hbel⟩
          case round =>
            clear hbox hrow hbel q2
            obtain ⟨j, hj, rfl, hpre, hrow, hbel⟩ := hrel
            have HJ : Hid (∀ t, t < j → (Q k).T t ∉ waited Q k ++ tasks (Q k) t) := hpre
            clear hpre
            have hrl2 := hrow.lt
            by_cases hlj : j < (Q k).n
            · obtain ⟨b2, off2, rfl, g1, g2⟩ := l2 j hlj
              have hb2 := World.block_lt_of_cell? w _ g1
              have t1 := (hbel.cell (p := ⟨b2, off2 + j * 2, none⟩) hb2).trans g1
              have t2 := (hbel.cell (p := ⟨b2, off2 + j * 2 + 1, none⟩) hb2).trans g2
              clear g1 g2
              obtain ⟨t, et⟩ := Int.eq_ofNat_of_zero_le ((HT.out k hlt).2 j hlj).1
              have ht12 : t < 12 := by have := ((HT.out k hlt).2 j hlj).2; omega
              have HE : Hid ((Q k).T j = (t : Int)) := et
              rw [et] at t1
              clear et
              have i1 : (t : Int) < 12 := by omega
              have r2 := hrow.alloc (.cells #[.int .i64 (t : Int), .bool ((Q k).S j)] 57)
              have o1 := r2.cell (i := t) ht12
              have f1 := r2.frozen t
              by_cases hin : (t : Int) ∈ waited Q k ++ tasks (Q k) j
              · have b1 : inB (waited Q k ++ tasks (Q k) j) t = true := inB_true.2 hin
                rw [b1] at o1
                have HI : Hid ((t : Int) ∈ waited Q k ++ tasks (Q k) j) := hin
                clear hin
                go_wp2
                go_ret
                exact ⟨says_no (fun h => (h k hlt).2 j hlj (by rw [HE.out]; exact HI.out)), push hbel _⟩
              · have b1 : inB (waited Q k ++ tasks (Q k) j) t = false := inB_false.2 hin
                rw [b1] at o1
                have HI : Hid ((t : Int) ∉ waited Q k ++ tasks (Q k) j) := hin
                clear hin
                go_wp2
                go_roundw
                case rel =>
                  refine ⟨j + 1, by omega, by go_num, fun t' ht' => ?_, ((hrow.set t _).alloc _).congr (fun x _ => ?_), push (hbel.setCell (Nat.le_refl _) _) _⟩
                  · by_cases e : t' = j
                    · subst e; rw [HE.out]; exact HI.out
                    · exact HJ.out t' (by omega)
                  · rw [tasks_succ, HE.out, ← List.append_assoc, inB_snoc]
                    by_cases e : x = t
                    · rw [if_pos e, if_pos e]
                    · rw [if_neg e, if_neg e]
                case measure => simp [intOf]; omega
            · obtain rfl : j = (Q k).n := by omega
              go_wp2
              go_roundw
              case rel => exact ⟨k + 1, by omega, by go_num, fun i hi => by
                by_cases e : i = k
                · subst e; exact ⟨HP.out, HJ.out⟩
                · exact HA.out i (by omega), hrow, hbel⟩
              case measure => simp [intOf]; omega
    · obtain rfl : k = N := by omega
      go_wp2
      go_ret
      exact ⟨says_yes HA.out, hbel⟩

theorem allTasks_of {N : Nat} {K : Nat → Int} {H Q : Nat → Line} (h : ∀ i, i < N → keyOk K i ∧ heldI (H i) ∧ queueI (H i) (Q i)) : AllTasks N H Q :=
  fun i hi => ⟨fun k hk => ((h i hi).2.1.2 k hk).1, fun j hj => ((h i hi).2.2.1 j hj).1⟩

set_option maxHeartbeats 1600000 in
set_option maxRecDepth 100000 in
theorem implLocks_any (ao : Option Addr) (N c : Nat) (K : Nat → Int) (H Q : Nat → Line) (w : World) (hs : ShortTo N H Q 1048576) (hc1 : N ≤ 1000000000000000) (hx : LocksAt w ao N K H Q) :
    Calls Try.prog 9 #[.slice ao N c] w fun e w' => SaysIf (GoodI N K H Q) e ∧ Below w.heap.size w w' := by
  have HS : Hid (ShortTo N H Q 1048576) := hs
  clear hs
  by_cases h60 : N ≤ 60
  · go_enter Try.func9, Try.ntmps9
    go_wp2
    go_loopg [10] N (fun g i wr => ∃ k : Nat, k ≤ N ∧ g = N - k ∧ i = .int .i64 k ∧ (∀ i, i < k → keyOk K i ∧ heldI (H i) ∧ queueI (H i) (Q i)) ∧ Below w.heap.size w wr)
    case atStart => exact ⟨0, Nat.zero_le _, rfl, rfl, fun i hi => by omega, Below.refl _ _⟩
    case round =>
      obtain ⟨k, hk, rfl, rfl, hall, hbel⟩ := hrel
      have HA : Hid (∀ i, i < k → keyOk K i ∧ heldI (H i) ∧ queueI (H i) (Q i)) := hall
      clear hall
      by_cases hlt : k < N
      · rcases locks_in hx with h0 | ⟨b, off, ha, qa, hc, qc, rfl, hbw, hin⟩
        · omega
        · obtain ⟨h1, h2, h3, l1, l2, _, _⟩ := hin k hlt
          have d1 := (hbel.cell (p := ⟨b, off + k * 3, none⟩) hbw).trans h1
          have d2 := (hbel.cell (p := ⟨b, off + k * 3 + 1, none⟩) hbw).trans h2
          have d3 := (hbel.cell (p := ⟨b, off + k * 3 + 2, none⟩) hbw).trans h3
          have HP : Hid (0 < k → w.cell? ⟨b, off + (k - 1) * 3, none⟩ = some (.int .i64 (K (k - 1)))) := fun h => (hin (k - 1) (by omega)).1
          have s1 := (HS.out k hlt).1
          have s2 := (HS.out k hlt).2
          clear h1 h2 h3 hin
          go_upto_region 6 with fail
          go_cut [10, 33] (fun i c wx => i = .int .i64 k ∧ Tells (keyOk K k) c ∧ wx.heap[wr.heap.size]? = some (.cells #[.int .i64 (K k), .slice (ha k) (H k).n (hc k), .slice (qa k) (Q k).n (qc k)] 60 (0, 0)) ∧ Below wr.heap.size wr wx)
          case first =>
            by_cases ht : isKeyI (K k)
            · by_cases k0 : k = 0
              · subst k0
                go_quiet (first | (go_at_call 21; refine Calls.quiet_of_same (isKey_yes _ _ ht)))
                go_wp2
                go_meet
                exact ⟨rfl, tells_good ⟨ht.1, ht.2, fun h => by omega⟩, heap_alloc_new wr _, below_drewN (push (Below.refl _ _) _) _⟩
              · have d0 : decide (0 < k) = true := by simp; omega
                have hk2 : ((k : Int) - 1).toNat = k - 1 := by omega
                have hk3 : (k : Int) - 1 < (N : Int) := by omega
                have hk4 : (0 : Int) ≤ (k : Int) - 1 := by omega
                have hk5 : IntKind.i64.wrap ((k : Int) - 1) = (k : Int) - 1 := by rw [IntKind.wrap_i64]; omega
                have p1 := ((push hbel (.cells #[.int .i64 (K k), .slice (ha k) (H k).n (hc k), .slice (qa k) (Q k).n (qc k)] 60)).cell (p := ⟨b, off + (k - 1) * 3, none⟩) hbw).trans (HP.out (by omega))
                by_cases hle : K k ≤ K (k - 1)
                · have e2 : decide (K k ≤ K (k - 1)) = true := by simpa using hle
                  go_quiet (first | (go_at_call 21; refine Calls.quiet_of_same (isKey_yes _ _ ht)))
                  go_wp2
                  go_meet
                  exact ⟨rfl, tells_bad (fun h => by have := h.2.2 (by omega); omega), heap_alloc_new wr _, below_drewN (push (Below.refl _ _) _) _⟩
                · have e2 : decide (K k ≤ K (k - 1)) = false := by simpa using hle
                  go_quiet (first | (go_at_call 21; refine Calls.quiet_of_same (isKey_yes _ _ ht)))
                  go_wp2
                  go_meet
                  exact ⟨rfl, tells_good ⟨ht.1, ht.2, fun _ => by omega⟩, heap_alloc_new wr _, below_drewN (push (Below.refl _ _) _) _⟩
            · go_quiet (first | (go_at_call 21; refine Calls.quiet_of_same (isKey_no _ _ ht)))
              go_wp2
              go_meet
              exact ⟨rfl, tells_bad (fun h => ht ⟨h.1, h.2.1⟩), heap_alloc_new wr _, below_drewN (push (Below.refl _ _) _) _⟩
          case rest =>
            obtain ⟨rfl, ⟨t, rfl, ht⟩, hbox, hbx⟩ := hcut
            have HT : Hid (t = false ↔ keyOk K k) := ht
            clear ht
            have hbel2 := after hbel hbx
            clear hbx d1 d2 d3 HP
            have q1 := blk_cell hbox 1 _ rfl
            cases t with
            | true =>
              go_wp2
              go_ret
              exact ⟨says_no (fun h => by have := HT.out.2 (h.2.1 k hlt).1; cases this), hbel2⟩
            | false =>
              have HK : Hid (keyOk K k) := HT.out.1 rfl
              go_wp2_with fail
              refine (goodHeld_any _ _ _ (H k) _ rfl s1 (l1.below hbel2)).mono ?_
              rintro e w3 ⟨⟨v, rfl, hv⟩, hb3⟩
              have HV : Hid (v = true ↔ heldI (H k)) := hv
              clear hv q1
              have hbox3 := blk_below hbox hb3
              have hbel3 := after hbel2 hb3
              clear hbox hbel2 hb3
              have q1 := blk_cell hbox3 1 _ rfl
              have q2 := blk_cell hbox3 2 _ rfl
              cases v with
              | false =>
                go_wp2
                go_ret
                exact ⟨says_no (fun h => by have := HV.out.2 (h.2.1 k hlt).2.1; cases this), hbel3⟩
              | true =>
                have HH : Hid (heldI (H k)) := HV.out.1 rfl
                go_wp2_with fail
                refine (goodQueue_any _ _ _ _ _ _ (H k) (Q k) _ rfl rfl s1 s2 HH.out (l1.below hbel3) (l2.below hbel3)).mono ?_
                rintro e w4 ⟨⟨v, rfl, hv⟩, hb4⟩
                have HW : Hid (v = true ↔ queueI (H k) (Q k)) := hv
                clear hv
                cases v with
                | false =>
                  go_wp2
                  go_ret
                  exact ⟨says_no (fun h => by have := HW.out.2 (h.2.1 k hlt).2.2; cases this), after hbel3 hb4⟩
                | true =>
                  have HX : Hid (queueI (H k) (Q k)) := HW.out.1 rfl
                  go_wp2
                  go_roundg (N - (k + 1))
                  case measure => omega
                  case rel => exact ⟨k + 1, by omega, rfl, by go_num, fun i hi => by
                    by_cases e : i = k
                    · subst e; exact ⟨HK.out, HH.out, HX.out⟩
                    · exact HA.out i (by omega), after hbel3 hb4⟩
      · obtain rfl : k = N := by omega
        go_wp2_with fail
        refine (waitInOrder_any ao k c K H Q _ h60 HS.out (allTasks_of HA.out) (hx.below hbel)).mono ?_
        rintro e w4 ⟨⟨v, rfl, hv⟩, hb4⟩
        have HW : Hid (v = true ↔ orderI k H Q) := hv
        clear hv
        cases v with
        | false =>
          go_wp2
          go_ret
          exact ⟨says_no (fun h => by have := HW.out.2 h.2.2; cases this), after hbel hb4⟩
        | true =>
          have HX : Hid (orderI k H Q) := HW.out.1 rfl
          go_wp2
          go_ret
          exact ⟨says_yes ⟨h60, HA.out, HX.out⟩, after hbel hb4⟩
  · go_enter Try.func9, Try.ntmps9
    go_wp2
    go_ret
    exact ⟨says_no (fun h => by have := h.1; omega), Below.refl _ _⟩

end Go.Proofs.Ytdmkpflphjemoaa

namespace Go.Proofs.Ytdmkpflphjemoaa
open Go.RowKit

/-- The first n of f are unlike. -/
def InjTo (f : Nat → Int) (n : Nat) : Prop := ∀ p q, p < q → q < n → f p ≠ f q
/-- The first n of f and of f0 are the same ones. -/
def SameTo (f f0 : Nat → Int) (n : Nat) : Prop := ∀ x, (∃ p, p < n ∧ f p = x) ↔ (∃ p, p < n ∧ f0 p = x)
def RiseTo (f : Nat → Int) (n : Nat) : Prop := ∀ p q, p < q → q < n → f p < f q
/-- Place j and the one ahead of it exchanged. -/
def swapI (j p : Nat) : Nat := if p = j then j - 1 else if p = j - 1 then j else p
def swapF (f : Nat → Int) (j p : Nat) : Int := if p = j then f (j - 1) else if p = j - 1 then f j else f p
theorem swapF_eq (f : Nat → Int) (j p : Nat) : swapF f j p = f (swapI j p) := by
  unfold swapF swapI
  by_cases h1 : p = j
  · rw [if_pos h1, if_pos h1]
  · rw [if_neg h1, if_neg h1]
    by_cases h2 : p = j - 1
    · rw [if_pos h2, if_pos h2]
    · rw [if_neg h2, if_neg h2]
theorem swapI_lt {j p n : Nat} (hj : j < n) (hp : p < n) : swapI j p < n := by
  unfold swapI
  split
  · omega
  · split <;> omega
theorem swapI_twice {j : Nat} (h0 : 0 < j) (p : Nat) : swapI j (swapI j p) = p := by
  unfold swapI
  by_cases h1 : p = j
  · rw [if_pos h1, if_neg (by omega), if_pos rfl]; exact h1.symm
  · rw [if_neg h1]
    by_cases h2 : p = j - 1
    · rw [if_pos h2, if_pos rfl]; exact h2.symm
    · rw [if_neg h2, if_neg h1, if_neg h2]
theorem injTo_ne {f : Nat → Int} {n : Nat} (h : InjTo f n) {p q : Nat} (hp : p < n) (hq : q < n) (hne : p ≠ q) : f p ≠ f q := by
  rcases Nat.lt_or_gt_of_ne hne with e | e
  · exact h p q e hq
  · exact fun e2 => h q p e hp e2.symm
theorem swap_inj {f : Nat → Int} {n j : Nat} (h : InjTo f n) (h0 : 0 < j) (hj : j < n) : InjTo (swapF f j) n := by
  intro p q hpq hq
  rw [swapF_eq, swapF_eq]
  refine injTo_ne h (swapI_lt hj (by omega)) (swapI_lt hj hq) (fun e => ?_)
  have := congrArg (swapI j) e
  rw [swapI_twice h0, swapI_twice h0] at this
  omega
theorem swap_same {f f0 : Nat → Int} {n j : Nat} (h : SameTo f f0 n) (h0 : 0 < j) (hj : j < n) : SameTo (swapF f j) f0 n := by
  intro x
  rw [← h x]
  constructor
  · rintro ⟨p, hp, e⟩
    exact ⟨swapI j p, swapI_lt hj hp, by rw [← swapF_eq f]; exact e⟩
  · rintro ⟨p, hp, e⟩
    exact ⟨swapI j p, swapI_lt hj hp, by rw [swapF_eq, swapI_twice h0]; exact e⟩
/-- All but the one at j rise up to place i, and those behind j are above it. -/
def MidTo (f : Nat → Int) (i j : Nat) : Prop := (∀ p q, p < q → q ≤ i → p ≠ j → q ≠ j → f p < f q) ∧ (∀ q, j < q → q ≤ i → f j < f q)
theorem mid_start {f : Nat → Int} {i : Nat} (h : RiseTo f i) : MidTo f i i := ⟨fun p q hpq hq _ hq2 => h p q hpq (by omega), fun q h1 h2 => by omega⟩
theorem mid_end {f : Nat → Int} {i j : Nat} (hm : MidTo f i j) (hj : j = 0 ∨ f (j - 1) < f j) : RiseTo f (i + 1) := by
  intro p q hpq hq
  by_cases e1 : q = j
  · subst e1
    rcases hj with e | e
    · omega
    · by_cases e2 : p = q - 1
      · rw [e2]; exact e
      · have := hm.1 p (q - 1) (by omega) (by omega) (by omega) (by omega); omega
  · by_cases e2 : p = j
    · subst e2; exact hm.2 q hpq (by omega)
    · exact hm.1 p q hpq (by omega) e2 e1
theorem mid_swap {f : Nat → Int} {i j : Nat} (hm : MidTo f i j) (h0 : 0 < j) (hj : j ≤ i) (hlt : f j < f (j - 1)) : MidTo (swapF f j) i (j - 1) := by
  constructor
  · intro p q hpq hq h1 h2
    unfold swapF
    by_cases e1 : p = j
    · rw [if_pos e1, if_neg (by omega), if_neg h2]
      exact hm.1 (j - 1) q (by omega) hq (by omega) (by omega)
    · rw [if_neg e1, if_neg h1]
      by_cases e2 : q = j
      · rw [if_pos e2]
        exact hm.1 p (j - 1) (by omega) (by omega) e1 (by omega)
      · rw [if_neg e2, if_neg h2]
        exact hm.1 p q hpq hq e1 e2
  · intro q h1 h2
    unfold swapF
    rw [if_neg (by omega), if_pos rfl]
    by_cases e : q = j
    · rw [if_pos e]; exact hlt
    · rw [if_neg e, if_neg (by omega)]; exact hm.2 q (by omega) h2

theorem isNaN_int (x : Int) (w : World) : Calls Try.prog 86 #[.int .i64 x] w fun e w' => e = .returned (.bool false) ∧ w' = w := by
  go_enter Try.func86, Try.ntmps86
  go_wp2
  go_ret
  exact ⟨rfl, rfl⟩
theorem less_int (x y : Int) (w : World) : Calls Try.prog 72 #[.int .i64 x, .int .i64 y] w fun e w' => e = .returned (.bool (decide (x < y))) ∧ w' = w := by
  go_enter Try.func72, Try.ntmps72
  go_wp2_with (first | (go_at_call 86; refine (isNaN_int _ _).mono ?_; rintro e w' ⟨rfl, rfl⟩))
  go_ret
  exact ⟨rfl, rfl⟩

theorem intList_swap {f : Nat → Int} {w : World} {base g n cap j : Nat} (h : w.ownsRow base 3 1 (.slice (some ⟨g, 0, none⟩) n cap) n (intList f n)) (h0 : 0 < j) :
    ((w.setCell ⟨g, j, none⟩ (.int .i64 (f (j - 1)))).setCell ⟨g, j - 1, none⟩ (.int .i64 (f j))).ownsRow base 3 1 (.slice (some ⟨g, 0, none⟩) n cap) n (intList (swapF f j) n) := by
  unfold intList at h ⊢
  refine own_congr (own_store (own_store h j _) (j - 1) _) (fun p _ => ?_)
  unfold swapF
  by_cases e1 : p = j - 1
  · rw [if_pos e1, if_neg (by omega), if_pos e1]
  · rw [if_neg e1]
    by_cases e2 : p = j
    · rw [if_pos e2, if_pos e2]
    · rw [if_neg e2, if_neg e2, if_neg e1]

set_option maxHeartbeats 1600000 in
set_option maxRecDepth 100000 in
theorem insertion_own (ao : Option Addr) (n c base : Nat) (f : Nat → Int) (w : World) (hn : n ≤ 12) (hi : InjTo f n) (ho : w.ownsRow base 3 1 (.slice ao n c) n (intList f n)) :
    Calls Try.prog 66 #[.slice ao n c, .int .i64 0, .int .i64 n] w fun e w' => e = .returned (.tuple #[]) ∧ (∃ f', w'.ownsRow base 3 1 (.slice ao n c) n (intList f' n) ∧ Hid (RiseTo f' n ∧ SameTo f' f n)) ∧ Kept w w' (fun b => (Value.slice ao n c).ownBlock = some b) := by
  have HI : Hid (InjTo f n) := hi
  clear hi
  by_cases hn0 : n = 0
  · subst hn0
    go_enter Try.func66, Try.ntmps66
    go_wp2
    go_loopg [6] 1 (fun g i wr => g = 1 ∧ i = .int .i64 1 ∧ wr = w)
    case atStart => exact ⟨rfl, rfl, rfl⟩
    case round =>
      obtain ⟨rfl, rfl, rfl⟩ := hrel
      go_wp2
      exact bodyPost_end (v := .tuple #[]) (by simp [results, Try.results66, go_sem]) rfl ⟨rfl, ⟨f, ho, ⟨fun p q _ _ => by omega, fun _ => Iff.rfl⟩⟩, Kept.refl _ _⟩
  · obtain ⟨g, rfl, hg1, hg2⟩ := own_addr ho (by omega)
    go_enter Try.func66, Try.ntmps66
    go_wp2
    go_loopg [6] (n - 1) (fun gh i wr => ∃ (k : Nat) (f1 : Nat → Int), 1 ≤ k ∧ k ≤ n ∧ gh = n - k ∧ i = .int .i64 k ∧ wr.ownsRow base 3 1 (.slice (some ⟨g, 0, none⟩) n c) n (intList f1 n) ∧ Hid (InjTo f1 n ∧ SameTo f1 f n ∧ RiseTo f1 k) ∧ Kept w wr (fun b => (Value.slice (some ⟨g, 0, none⟩) n c).ownBlock = some b))
    case atStart => exact ⟨1, f, Nat.le_refl _, by omega, rfl, rfl, ho, ⟨HI.out, fun _ => Iff.rfl, fun p q _ _ => by omega⟩, Kept.refl _ _⟩
    case round =>
      obtain ⟨k, f1, hk1, hk, rfl, rfl, ho1, HF, hk0⟩ := hrel
      by_cases hlt : k < n
      · have hkn : (k : Int) < (n : Int) := by omega
        go_wp2
        go_loopg [7] k (fun gh i wr2 => ∃ (f2 : Nat → Int), gh ≤ k ∧ i = .int .i64 gh ∧ wr2.ownsRow base 3 1 (.slice (some ⟨g, 0, none⟩) n c) n (intList f2 n) ∧ Hid (InjTo f2 n ∧ SameTo f2 f n ∧ MidTo f2 k gh) ∧ Kept w wr2 (fun b => (Value.slice (some ⟨g, 0, none⟩) n c).ownBlock = some b))
        case atStart => exact ⟨f1, Nat.le_refl _, rfl, ho1, ⟨HF.out.1, HF.out.2.1, mid_start HF.out.2.2⟩, hk0⟩
        case round =>
          clear ho1 hk0 HF
          obtain ⟨f2, hj, rfl, ho2, HF, hk2⟩ := hrel
          by_cases j0 : gk = 0
          · have HE : Hid (RiseTo f2 (k + 1)) := mid_end HF.out.2.2 (.inl j0)
            have d0 : decide (0 < gk) = false := by simp; omega
            clear j0
            go_wp2
            go_quiet (fail)
            go_wp2
            go_roundg (n - (k + 1))
            case measure => omega
            case rel => exact ⟨k + 1, f2, by omega, by omega, rfl, by go_num, own_below (below_drewN (Below.refl _ _) _) ho2, ⟨HF.out.1, HF.out.2.1, HE.out⟩, hk2.trans (Kept.of_below (below_drewN (Below.refl _ _) _))⟩
          · have d0 : decide (0 < gk) = true := by simp; omega
            have hj1 : (gk : Int) < (n : Int) := by omega
            have hj2 : ((gk : Int) - 1).toNat = gk - 1 := by omega
            have hj3 : (gk : Int) - 1 < (n : Int) := by omega
            have hj4 : (0 : Int) ≤ (gk : Int) - 1 := by omega
            have hj5 : IntKind.i64.wrap ((gk : Int) - 1) = (gk : Int) - 1 := by rw [IntKind.wrap_i64]; omega
            have hj6 : (0 : Int) ≤ (gk : Int) := by omega
            have c1 := own_cell ho2 gk (by omega) (by omega)
            have c2 := own_cell ho2 (gk - 1) (by omega) (by omega)
            have f1' := ho2.frozenAt gk
            have f2' := ho2.frozenAt (gk - 1)
            by_cases hl : f2 gk < f2 (gk - 1)
            · have HL : Hid (f2 gk < f2 (gk - 1)) := hl
              have d1 : decide (f2 gk < f2 (gk - 1)) = true := by simpa using hl
              clear hl
              go_wp2
              go_quiet (first | (go_at_call 72; refine Calls.quiet_of_same (less_int _ _ _)))
              go_wp2
              go_region
              go_wp2
              go_roundg (gk - 1)
              case measure => omega
              case rel =>
                have hod := own_below (below_drewN (Below.refl wr.heap.size wr) (nq + 1)) ho2
                have hkd := hk2.trans (Kept.of_below (below_drewN (Below.refl wr.heap.size wr) (nq + 1)))
                exact ⟨swapF f2 gk, by omega, by rw [show ((gk - 1 : Nat) : Int) = (gk : Int) - 1 by omega], intList_swap hod (by omega), ⟨swap_inj HF.out.1 (by omega) (by omega), swap_same HF.out.2.1 (by omega) (by omega), mid_swap HF.out.2.2 (by omega) hj HL.out⟩, (hkd.set (a := ⟨g, gk, none⟩) rfl _).set (a := ⟨g, gk - 1, none⟩) rfl _⟩
            · have HE : Hid (RiseTo f2 (k + 1)) := mid_end HF.out.2.2 (.inr (by have := injTo_ne HF.out.1 (p := gk) (q := gk - 1) (by omega) (by omega) (by omega); omega))
              have d1 : decide (f2 gk < f2 (gk - 1)) = false := by simpa using hl
              clear hl
              go_wp2
              go_quiet (first | (go_at_call 72; refine Calls.quiet_of_same (less_int _ _ _)))
              go_wp2
              go_roundg (n - (k + 1))
              case measure => omega
              case rel => exact ⟨k + 1, f2, by omega, by omega, rfl, by go_num, own_below (below_drewN (Below.refl _ _) _) ho2, ⟨HF.out.1, HF.out.2.1, HE.out⟩, hk2.trans (Kept.of_below (below_drewN (Below.refl _ _) _))⟩
      · obtain rfl : k = n := by omega
        go_wp2
        exact bodyPost_end (v := .tuple #[]) (by simp [results, Try.results66, go_sem]) rfl ⟨rfl, ⟨f1, ho1, ⟨HF.out.2.2, HF.out.2.1⟩⟩, hk0⟩

set_option maxHeartbeats 1600000 in
set_option maxRecDepth 100000 in
theorem len64_few (n : Nat) (w : World) (hn : n ≤ 12) : Calls Try.prog 76 #[.int .u64 n] w fun e w' => (∃ r : Int, e = .returned (.int .i64 r)) ∧ w' = w := by
  have hc : n = 0 ∨ n = 1 ∨ n = 2 ∨ n = 3 ∨ n = 4 ∨ n = 5 ∨ n = 6 ∨ n = 7 ∨ n = 8 ∨ n = 9 ∨ n = 10 ∨ n = 11 ∨ n = 12 := by omega
  rcases hc with rfl | rfl | rfl | rfl | rfl | rfl | rfl | rfl | rfl | rfl | rfl | rfl | rfl
  all_goals
    go_enter Try.func76, Try.ntmps76
    go_wp2
    go_ret
    exact ⟨⟨_, rfl⟩, rfl⟩

end Go.Proofs.Ytdmkpflphjemoaa
