/-
  OWN TEXT: RoomIn, PlainR6, StandsI.
-/
import Derived.Deep.DrawnRows
import Derived.Test.YtaopapjnhlombaaGreatB25
import Derived.Test.YtaopapjnhlombaaGreatB01
import Derived.Test.YtaopapjnhlombaaGreatB11
import Derived.Test.YtaopapjnhlombaaGreatB05
namespace Go.Proofs.YtaopapjnhlombaaGreat
open Go.RowKit

set_option maxHeartbeats 3200000 in
set_option maxRecDepth 100000 in
theorem roomInB_any (many cl be free : Int) (w : World) :
    Calls Tryz.prog 201 #[.agg #[.int .i64 many], .agg #[.int .i64 cl, .int .i64 be], .int .i64 free] w fun e w' => e = .returned (.tuple #[.agg #[.int .i64 0, .int .i64 0, .int .i64 many, .bool false], .bool (decide (In many 1 free))]) ∧ Below w.heap.size w w' := by
  go_enter Tryz.func201, Tryz.ntmps201
  go_upto_region 1 with fail
  go_region_with (first | (go_at_call 130; refine (within_is _ _ _ _).mono ?_; rintro e w' ⟨rfl, hw'⟩; have hw' := hw'.symm; subst hw'))
  all_goals
    have r3 : (((w.alloc (.cells #[.int .i64 many] 245)).alloc (.cells #[.int .i64 cl, .int .i64 be] 126)).alloc (.cells #[.int .i64 0, .int .i64 0, .int .i64 many, .bool false] 128)).drew.heap[w.heap.size + 1 + 1]? = some (.cells #[.int .i64 0, .int .i64 0, .int .i64 many, .bool false] 128 (0, 0)) := by
      have := heap_alloc_new ((w.alloc (.cells #[.int .i64 many] 245)).alloc (.cells #[.int .i64 cl, .int .i64 be] 126)) (.cells #[.int .i64 0, .int .i64 0, .int .i64 many, .bool false] 128)
      rw [World.size_alloc, World.size_alloc] at this
      exact blk_drew this
    have q0 := blk_cell r3 0 _ rfl
    have q1 := blk_cell r3 1 _ rfl
    have q2 := blk_cell r3 2 _ rfl
    have q3 := blk_cell r3 3 _ rfl
    have HB : Hid (Below w.heap.size w (((w.alloc (.cells #[.int .i64 many] 245)).alloc (.cells #[.int .i64 cl, .int .i64 be] 126)).alloc (.cells #[.int .i64 0, .int .i64 0, .int .i64 many, .bool false] 128)).drew) := (push (push (push (Below.refl _ _) _) _) _).drew
    clear r3
    generalize (((w.alloc (.cells #[.int .i64 many] 245)).alloc (.cells #[.int .i64 cl, .int .i64 be] 126)).alloc (.cells #[.int .i64 0, .int .i64 0, .int .i64 many, .bool false] 128)).drew = W at *
    go_wp2
    exact bodyPost_ret (v := .tuple #[.agg #[.int .i64 0, .int .i64 0, .int .i64 many, .bool false], .bool (decide (In many 1 free))]) (by simp [results, Tryz.results201, go_sem, q0, q1, q2, q3]) rfl ⟨rfl, HB.out⟩

set_option maxHeartbeats 3200000 in
set_option maxRecDepth 100000 in
theorem roomInW_any (least cl be free : Int) (w : World) :
    Calls Tryz.prog 200 #[.agg #[.int .i64 least], .agg #[.int .i64 cl, .int .i64 be], .int .i64 free] w fun e w' => e = .returned (.tuple #[.agg #[.int .i64 0, .int .i64 0, .int .i64 be, .bool true], .bool (decide (free = be ∧ least ≤ be))]) ∧ Below w.heap.size w w' := by
  by_cases h : free = be
  · have e1 : (free == be) = true := by simpa using h
    by_cases h2 : least ≤ be
    · have e2 : decide (least ≤ be) = true := decide_eq_true h2
      have HD : Hid (decide (free = be ∧ least ≤ be) = true) := decide_eq_true ⟨h, h2⟩
      clear h h2
      go_enter Tryz.func200, Tryz.ntmps200
      go_upto_region 1 with fail
      go_region
      all_goals
        have r3 : (((w.alloc (.cells #[.int .i64 least] 243)).alloc (.cells #[.int .i64 cl, .int .i64 be] 126)).alloc (.cells #[.int .i64 0, .int .i64 0, .int .i64 be, .bool true] 128)).drew.heap[w.heap.size + 1 + 1]? = some (.cells #[.int .i64 0, .int .i64 0, .int .i64 be, .bool true] 128 (0, 0)) := by
          have := heap_alloc_new ((w.alloc (.cells #[.int .i64 least] 243)).alloc (.cells #[.int .i64 cl, .int .i64 be] 126)) (.cells #[.int .i64 0, .int .i64 0, .int .i64 be, .bool true] 128)
          rw [World.size_alloc, World.size_alloc] at this
          exact blk_drew this
        have q0 := blk_cell r3 0 _ rfl
        have q1 := blk_cell r3 1 _ rfl
        have q2 := blk_cell r3 2 _ rfl
        have q3 := blk_cell r3 3 _ rfl
        have HB : Hid (Below w.heap.size w (((w.alloc (.cells #[.int .i64 least] 243)).alloc (.cells #[.int .i64 cl, .int .i64 be] 126)).alloc (.cells #[.int .i64 0, .int .i64 0, .int .i64 be, .bool true] 128)).drew) := (push (push (push (Below.refl _ _) _) _) _).drew
        clear r3
        generalize (((w.alloc (.cells #[.int .i64 least] 243)).alloc (.cells #[.int .i64 cl, .int .i64 be] 126)).alloc (.cells #[.int .i64 0, .int .i64 0, .int .i64 be, .bool true] 128)).drew = W at *
        go_wp2
        exact bodyPost_ret (v := .tuple #[.agg #[.int .i64 0, .int .i64 0, .int .i64 be, .bool true], .bool true]) (by simp [results, Tryz.results200, go_sem, q0, q1, q2, q3]) rfl ⟨by rw [HD.out], HB.out⟩
    · have e2 : decide (least ≤ be) = false := decide_eq_false h2
      have HD : Hid (decide (free = be ∧ least ≤ be) = false) := decide_eq_false (fun q => h2 q.2)
      clear h h2
      go_enter Tryz.func200, Tryz.ntmps200
      go_upto_region 1 with fail
      go_region
      all_goals
        have r3 : (((w.alloc (.cells #[.int .i64 least] 243)).alloc (.cells #[.int .i64 cl, .int .i64 be] 126)).alloc (.cells #[.int .i64 0, .int .i64 0, .int .i64 be, .bool true] 128)).drew.heap[w.heap.size + 1 + 1]? = some (.cells #[.int .i64 0, .int .i64 0, .int .i64 be, .bool true] 128 (0, 0)) := by
          have := heap_alloc_new ((w.alloc (.cells #[.int .i64 least] 243)).alloc (.cells #[.int .i64 cl, .int .i64 be] 126)) (.cells #[.int .i64 0, .int .i64 0, .int .i64 be, .bool true] 128)
          rw [World.size_alloc, World.size_alloc] at this
          exact blk_drew this
        have q0 := blk_cell r3 0 _ rfl
        have q1 := blk_cell r3 1 _ rfl
        have q2 := blk_cell r3 2 _ rfl
        have q3 := blk_cell r3 3 _ rfl
        have HB : Hid (Below w.heap.size w (((w.alloc (.cells #[.int .i64 least] 243)).alloc (.cells #[.int .i64 cl, .int .i64 be] 126)).alloc (.cells #[.int .i64 0, .int .i64 0, .int .i64 be, .bool true] 128)).drew) := (push (push (push (Below.refl _ _) _) _) _).drew
        clear r3
        generalize (((w.alloc (.cells #[.int .i64 least] 243)).alloc (.cells #[.int .i64 cl, .int .i64 be] 126)).alloc (.cells #[.int .i64 0, .int .i64 0, .int .i64 be, .bool true] 128)).drew = W at *
        go_wp2
        exact bodyPost_ret (v := .tuple #[.agg #[.int .i64 0, .int .i64 0, .int .i64 be, .bool true], .bool false]) (by simp [results, Tryz.results200, go_sem, q0, q1, q2, q3]) rfl ⟨by rw [HD.out], HB.out⟩
  · have e1 : (free == be) = false := by simpa using h
    have HD : Hid (decide (free = be ∧ least ≤ be) = false) := decide_eq_false (fun q => h q.1)
    clear h
    go_enter Tryz.func200, Tryz.ntmps200
    go_upto_region 1 with fail
    go_region
    all_goals
      have r3 : (((w.alloc (.cells #[.int .i64 least] 243)).alloc (.cells #[.int .i64 cl, .int .i64 be] 126)).alloc (.cells #[.int .i64 0, .int .i64 0, .int .i64 be, .bool true] 128)).drew.heap[w.heap.size + 1 + 1]? = some (.cells #[.int .i64 0, .int .i64 0, .int .i64 be, .bool true] 128 (0, 0)) := by
        have := heap_alloc_new ((w.alloc (.cells #[.int .i64 least] 243)).alloc (.cells #[.int .i64 cl, .int .i64 be] 126)) (.cells #[.int .i64 0, .int .i64 0, .int .i64 be, .bool true] 128)
        rw [World.size_alloc, World.size_alloc] at this
        exact blk_drew this
      have q0 := blk_cell r3 0 _ rfl
      have q1 := blk_cell r3 1 _ rfl
      have q2 := blk_cell r3 2 _ rfl
      have q3 := blk_cell r3 3 _ rfl
      have HB : Hid (Below w.heap.size w (((w.alloc (.cells #[.int .i64 least] 243)).alloc (.cells #[.int .i64 cl, .int .i64 be] 126)).alloc (.cells #[.int .i64 0, .int .i64 0, .int .i64 be, .bool true] 128)).drew) := (push (push (push (Below.refl _ _) _) _) _).drew
      clear r3
      generalize (((w.alloc (.cells #[.int .i64 least] 243)).alloc (.cells #[.int .i64 cl, .int .i64 be] 126)).alloc (.cells #[.int .i64 0, .int .i64 0, .int .i64 be, .bool true] 128)).drew = W at *
      go_wp2
      exact bodyPost_ret (v := .tuple #[.agg #[.int .i64 0, .int .i64 0, .int .i64 be, .bool true], .bool false]) (by simp [results, Tryz.results200, go_sem, q0, q1, q2, q3]) rfl ⟨by rw [HD.out], HB.out⟩

/-- The two ways behind the interface: none is a nil pointer, and which function is called. -/
theorem nilB (many : Int) (w : World) : (nilAhead 365 245 (.agg #[.int .i64 many]) "loop.example/g00084/impl.roomIn").run Tryz.prog w = .ok (some false) w := by kernel_rfl
theorem nilW (least : Int) (w : World) : (nilAhead 365 243 (.agg #[.int .i64 least]) "loop.example/g00084/impl.roomIn").run Tryz.prog w = .ok (some false) w := by kernel_rfl
theorem methB (many : Int) (w : World) : (method 365 245 (.agg #[.int .i64 many]) "loop.example/g00084/impl.roomIn").run Tryz.prog w = .ok (201, .agg #[.int .i64 many]) w := by kernel_rfl
theorem methW (least : Int) (w : World) : (method 365 243 (.agg #[.int .i64 least]) "loop.example/g00084/impl.roomIn").run Tryz.prog w = .ok (200, .agg #[.int .i64 least]) w := by kernel_rfl

theorem wayOf_any (x c many : Int) (all : Bool) (w : World) :
    Calls Tryz.prog 181 #[.agg #[.int .i64 x, .int .i64 c, .int .i64 many, .bool all]] w fun e w' => e = .returned (if all then .iface 243 (.agg #[.int .i64 0]) else .iface 245 (.agg #[.int .i64 many])) ∧ Below w.heap.size w w' := by
  cases all with
  | false =>
    go_enter Tryz.func181, Tryz.ntmps181
    go_wp2
    go_ret
    exact ⟨rfl, push (Below.refl _ _) _⟩
  | true =>
    go_enter Tryz.func181, Tryz.ntmps181
    go_wp2
    go_ret
    exact ⟨rfl, push (Below.refl _ _) _⟩

end Go.Proofs.YtaopapjnhlombaaGreat

namespace Go.Proofs.YtaopapjnhlombaaGreat
open Go.RowKit

/-- The room may stand where so much is free. -/
def Stands (p : Pairs) (F : Nat → Int) (r : Room) : Prop :=
  In r.cab 0 ((p.n : Int) - 1) ∧ (r.all = true → F r.cab.toNat = p.B r.cab.toNat ∧ r.many = p.B r.cab.toNat) ∧ (r.all = false → In r.many 1 (F r.cab.toNat))
/-- What is free in a row of six, 0 behind the cabins. -/
def freeR (p : Pairs) (S : Nat → Room) (i k : Nat) : Int := if k < p.n then leftR p S i k else 0
theorem freeR_0 (p : Pairs) (S : Nat → Room) (k : Nat) : freeR p S 0 k = upto p.n p.B 0 k := by
  unfold freeR upto
  split
  · rw [leftR_0]
  · rfl
theorem freeR_lt {p : Pairs} {S : Nat → Room} {i k : Nat} (h : k < p.n) : freeR p S i k = leftR p S i k := if_pos h
theorem freeR_step (p : Pairs) (S : Nat → Room) (i l j : Nat) (hl : l < p.n) (h : (S i).cab = (l : Int)) : (if j = l then freeR p S i l - (S i).many else freeR p S i j) = freeR p S (i + 1) j := by
  by_cases e : j = l
  · subst e; rw [if_pos rfl, freeR_lt hl, freeR_lt hl, leftR_at p S i j h]
  · rw [if_neg e]
    unfold freeR
    split
    · rw [leftR_ne p S i j (by rw [h]; omega)]
    · rfl
theorem stands_free {p : Pairs} {S : Nat → Room} {i : Nat} {r : Room} : Stands p (freeR p S i) r ↔ Stands p (leftR p S i) r := by
  unfold Stands
  constructor
  · rintro ⟨h, h1, h2⟩
    have hl : r.cab.toNat < p.n := by unfold In at h; omega
    rw [freeR_lt hl] at h1 h2
    exact ⟨h, h1, h2⟩
  · rintro ⟨h, h1, h2⟩
    have hl : r.cab.toNat < p.n := by unfold In at h; omega
    rw [freeR_lt hl]
    exact ⟨h, h1, h2⟩
/-- Rooms are good, looked at one after the other. -/
def RoomsI (p : Pairs) (n : Nat) (S : Nat → Room) : Prop :=
  GoodC p ∧ n ≤ 60 ∧ ∀ i, i < n → In (S i).who 1 9999 ∧ ¬ Has (whoR S) i (S i).who ∧ Stands p (leftR p S i) (S i)
theorem used_none {S : Nat → Room} {k i : Nat} (h : ∀ j, j < i → (S j).cab ≠ (k : Int)) : usedR S k i = 0 := by
  induction i with
  | zero => rfl
  | succ i ih => unfold usedR; rw [ih (fun j hj => h j (by omega)), if_neg (h i (by omega))]; rfl
theorem left_le (p : Pairs) (S : Nat → Room) (k i : Nat) (h : ∀ j, j < i → In (S j).many 1 4) : leftR p S i k ≤ p.B k := by
  have := leftR_mono p S k 0 i (Nat.zero_le _) h
  rw [leftR_0] at this
  exact this
theorem rooms_steps {p : Pairs} {n : Nat} {S : Nat → Room} (hg : GoodC p) (hs : ∀ i, i < n → Stands p (leftR p S i) (S i)) : ∀ i, i ≤ n → (∀ j, j < i → In (S j).many 1 4) ∧ ∀ k, k < p.n → 0 ≤ leftR p S i k := by
  intro i
  induction i with
  | zero =>
    intro _
    refine ⟨fun j hj => by omega, fun k hk => ?_⟩
    have := (hg.2 k hk).2
    unfold In at this
    rw [leftR_0]; omega
  | succ i ih =>
    intro hi
    obtain ⟨a, b⟩ := ih (by omega)
    obtain ⟨hc, h1, h2⟩ := hs i (by omega)
    obtain ⟨l, hl⟩ : ∃ l : Nat, (S i).cab = l := ⟨(S i).cab.toNat, by unfold In at hc; omega⟩
    have hlt : l < p.n := by unfold In at hc; omega
    have et : (S i).cab.toNat = l := by omega
    rw [et] at h1 h2
    have hB := (hg.2 l hlt).2
    have hle := left_le p S l i a
    have hstep := leftR_at p S i l hl
    have hm : In (S i).many 1 4 ∧ 0 ≤ leftR p S (i + 1) l := by
      cases hall : (S i).all with
      | true =>
        have := h1 hall
        unfold In at hB ⊢
        omega
      | false =>
        have := h2 hall
        unfold In at hB this ⊢
        omega
    refine ⟨fun j hj => ?_, fun k hk => ?_⟩
    · by_cases e : j = i
      · subst e; exact hm.1
      · exact a j (by omega)
    · by_cases e : k = l
      · subst e; exact hm.2
      · rw [leftR_ne p S i k (by rw [hl]; omega)]; exact b k hk
theorem roomsS_of_I {p : Pairs} {n : Nat} {S : Nat → Room} (h : RoomsI p n S) : RoomsS p n S := by
  obtain ⟨hg, hn, hall⟩ := h
  have st := rooms_steps hg (fun i hi => (hall i hi).2.2)
  refine ⟨hg, hn, fun i hi => ⟨⟨(hall i hi).1, (hall i hi).2.1, (hall i hi).2.2.1, (st n (Nat.le_refl _)).1 i hi, fun ha => ((hall i hi).2.2.2.1 ha).2⟩, fun j hj he => ?_⟩, fun k hk => (st n (Nat.le_refl _)).2 k hk⟩
  obtain ⟨hc, h1, h2⟩ := (hall i hi).2.2
  obtain ⟨_, k1, k2⟩ := (hall j (by omega)).2.2
  obtain ⟨l, hl⟩ : ∃ l : Nat, (S i).cab = l := ⟨(S i).cab.toNat, by unfold In at hc; omega⟩
  have et : (S i).cab.toNat = l := by omega
  have ej : (S j).cab = (l : Int) := he.trans hl
  have ejt : (S j).cab.toNat = l := by omega
  rw [et] at h1 h2
  rw [ejt] at k1 k2
  have hmj := (st n (Nat.le_refl _)).1 j (by omega)
  have hle := left_le p S l j (fun t ht => (st n (Nat.le_refl _)).1 t (by omega))
  have hstep := leftR_at p S j l ej
  have hmono := leftR_mono p S l (j + 1) i (by omega) (fun t ht => (st n (Nat.le_refl _)).1 t (by omega))
  unfold In at hmj
  have hi0 : (S i).all = false := by
    cases ha : (S i).all with
    | false => rfl
    | true => have := (h1 ha).1; omega
  refine ⟨?_, hi0⟩
  cases ha : (S j).all with
  | false => rfl
  | true =>
    have := k1 ha
    have h3 := h2 hi0
    unfold In at h3
    omega
theorem roomsI_of_S {p : Pairs} {n : Nat} {S : Nat → Room} (h : RoomsS p n S) : RoomsI p n S := by
  have hm := h.manys
  obtain ⟨hg, hn, hall, hleft⟩ := h
  refine ⟨hg, hn, fun i hi => ?_⟩
  obtain ⟨⟨h1, h2, hc, h4, h5⟩, h6⟩ := hall i hi
  refine ⟨h1, h2, hc, fun ha => ⟨?_, h5 ha⟩, fun _ => ⟨h4.1, ?_⟩⟩
  · have : usedR S (S i).cab.toNat i = 0 := used_none (fun j hj e => by
      have := (h6 j hj (by unfold In at hc; omega)).2
      rw [ha] at this; cases this)
    unfold leftR; rw [this]; omega
  · have hlt : (S i).cab.toNat < p.n := by unfold In at hc; omega
    have hstep := leftR_at p S i (S i).cab.toNat (by unfold In at hc; omega)
    have hmono := leftR_mono p S (S i).cab.toNat (i + 1) n (by omega) hm
    have := hleft _ hlt
    omega
theorem rooms_iff {p : Pairs} {n : Nat} {S : Nat → Room} : RoomsI p n S ↔ RoomsS p n S := ⟨roomsS_of_I, roomsI_of_S⟩
/-- Good rooms are fewer than the berths of six cabins. -/
theorem rooms_few {p : Pairs} {n : Nat} {S : Nat → Room} (h : RoomsS p n S) : n ≤ 24 := by
  have hm := h.manys
  obtain ⟨hg, hn, hall, hleft⟩ := h
  have hcab : ∀ i, i < n → ∃ l : Nat, (S i).cab = l ∧ l < p.n := fun i hi => by
    have hc := (hall i hi).1.2.2.1
    exact ⟨(S i).cab.toNat, by unfold In at hc; omega, by unfold In at hc; omega⟩
  have hp := hg.1
  have hsum : ∀ i, i ≤ n → (i : Int) ≤ usedR S 0 i + usedR S 1 i + usedR S 2 i + usedR S 3 i + usedR S 4 i + usedR S 5 i := by
    intro i
    induction i with
    | zero => intro _; simp [usedR]
    | succ i ih =>
      intro hi
      have := ih (by omega)
      obtain ⟨l, hl, hlt⟩ := hcab i (by omega)
      have h1 := (hm i (by omega)).1
      have hl6 : l = 0 ∨ l = 1 ∨ l = 2 ∨ l = 3 ∨ l = 4 ∨ l = 5 := by omega
      unfold usedR
      rw [hl]
      rcases hl6 with rfl | rfl | rfl | rfl | rfl | rfl <;> simp <;> omega
  have hu : ∀ k, usedR S k n ≤ 4 := fun k => by
    by_cases hk : k < p.n
    · have h1 := hleft k hk
      have h2 := (hg.2 k hk).2
      unfold In at h2
      unfold leftR at h1
      omega
    · rw [used_none (fun j hj e => by obtain ⟨l, hl, hlt⟩ := hcab j hj; rw [hl] at e; omega)]; omega
  have := hsum n (Nat.le_refl _)
  have := hu 0
  have := hu 1
  have := hu 2
  have := hu 3
  have := hu 4
  have := hu 5
  omega

end Go.Proofs.YtaopapjnhlombaaGreat

namespace Go.Proofs.YtaopapjnhlombaaGreat
open Go.RowKit

attribute [local go_sem ↓] Go.wp_at_zero Go.wp_at_succ

theorem setI {W w : World} {b i : Nat} (h : Below W.heap.size W w) (hb : W.heap.size ≤ b) (u : Value) : Below W.heap.size W (w.setCell ⟨b, i, none⟩ u) := h.setCell hb u
/-- Six numbers, as the value of an array. -/
def six (F : Nat → Int) : Value := .agg #[.int .i64 (F 0), .int .i64 (F 1), .int .i64 (F 2), .int .i64 (F 3), .int .i64 (F 4), .int .i64 (F 5)]

set_option maxHeartbeats 6400000 in
set_option maxRecDepth 100000 in
theorem standsIn_any (ao : Option Addr) (n c : Nat) (p : Pairs) (F : Nat → Int) (x cab many : Int) (all : Bool) (w : World) (hl : p.n = n) (hg : GoodC p) (hz : PairsAt w ao p) :
    Calls Tryz.prog 161 #[.slice ao n c, .agg #[.int .i64 (F 0), .int .i64 (F 1), .int .i64 (F 2), .int .i64 (F 3), .int .i64 (F 4), .int .i64 (F 5)], .agg #[.int .i64 x, .int .i64 cab, .int .i64 many, .bool all]] w fun e w' => SaysIf (Stands p F ⟨x, cab, many, all⟩) e ∧ Below w.heap.size w w' := by
  have HL : Hid (p.n = n) := hl
  have HG : Hid (GoodC p) := hg
  have hn6 : n ≤ 6 := by rw [← hl]; exact hg.1
  clear hl hg
  have hmf : ∀ (fn : Fn) (first cap : Array Value) (w : World), (Instr.makeFunc fn first cap).run Tryz.prog w = .ok (.func fn first cap) w := fun _ _ _ _ => rfl
  have k1 := nilB
  have k2 := nilW
  have k3 := methB
  have k4 := methW
  go_enter Tryz.func161, Tryz.ntmps161
  go_upto_region 1 with fail
  have b0 : ((w.alloc (.cells #[.int .i64 (F 0), .int .i64 (F 1), .int .i64 (F 2), .int .i64 (F 3), .int .i64 (F 4), .int .i64 (F 5)] 192)).alloc (.cells #[.int .i64 x, .int .i64 cab, .int .i64 many, .bool all] 128)).heap[w.heap.size]? = some (.cells #[.int .i64 (F 0), .int .i64 (F 1), .int .i64 (F 2), .int .i64 (F 3), .int .i64 (F 4), .int .i64 (F 5)] 192 (0, 0)) := blk_alloc (heap_alloc_new w _) _
  have b1 : ((w.alloc (.cells #[.int .i64 (F 0), .int .i64 (F 1), .int .i64 (F 2), .int .i64 (F 3), .int .i64 (F 4), .int .i64 (F 5)] 192)).alloc (.cells #[.int .i64 x, .int .i64 cab, .int .i64 many, .bool all] 128)).heap[w.heap.size + 1]? = some (.cells #[.int .i64 x, .int .i64 cab, .int .i64 many, .bool all] 128 (0, 0)) := by simpa using heap_alloc_new (w.alloc _) _
  have hb0 : Below w.heap.size w ((w.alloc (.cells #[.int .i64 (F 0), .int .i64 (F 1), .int .i64 (F 2), .int .i64 (F 3), .int .i64 (F 4), .int .i64 (F 5)] 192)).alloc (.cells #[.int .i64 x, .int .i64 cab, .int .i64 many, .bool all] 128)) := push (push (Below.refl _ _) _) _
  generalize (w.alloc (.cells #[.int .i64 (F 0), .int .i64 (F 1), .int .i64 (F 2), .int .i64 (F 3), .int .i64 (F 4), .int .i64 (F 5)] 192)).alloc (.cells #[.int .i64 x, .int .i64 cab, .int .i64 many, .bool all] 128) = W at b0 b1 hb0 ⊢
  have hwr : IntKind.i64.wrap ((n : Int) - 1) = (n : Int) - 1 := by rw [IntKind.wrap_i64]; omega
  have z1 := blk_cell b1 1 _ rfl
  by_cases h3 : In cab 0 ((n : Int) - 1)
  · have e3 : decide (In cab 0 ((n : Int) - 1)) = true := decide_eq_true h3
    have H3 : Hid (In cab 0 ((n : Int) - 1)) := h3
    obtain ⟨m, rfl⟩ : ∃ m : Nat, cab = m := ⟨cab.toNat, by unfold In at h3; omega⟩
    have hm : m < n := by unfold In at h3; omega
    clear h3
    obtain ⟨b, off, rfl, g1, g2⟩ := hz m (by rw [HL.out]; exact hm)
    have hb := World.block_lt_of_cell? w _ g1
    have i1 : (0 : Int) ≤ (m : Int) := by omega
    have i2 : (m : Int) < (n : Int) := by omega
    have i3 : (m : Int) < 6 := by omega
    have i4 : m < 6 := by omega
    have HB0 : Hid (Below w.heap.size w W) := hb0
    have keepS : Hid (∀ w', Below W.heap.size W w' → (w'.cell? ⟨w.heap.size + 1, 0, none⟩ = some (.int .i64 x) ∧ w'.cell? ⟨w.heap.size + 1, 1, none⟩ = some (.int .i64 (m : Int)) ∧ w'.cell? ⟨w.heap.size + 1, 2, none⟩ = some (.int .i64 many) ∧ w'.cell? ⟨w.heap.size + 1, 3, none⟩ = some (.bool all) ∧ w'.cell? ⟨b, off + m * 2, none⟩ = some (.int .i64 (p.A m)) ∧ w'.cell? ⟨b, off + m * 2 + 1, none⟩ = some (.int .i64 (p.B m)) ∧ w'.cell? ⟨w.heap.size, m, none⟩ = some (.int .i64 (F m)))) := fun w' h => by
      have r1 := blk_below b1 h
      have r0 := blk_below b0 h
      refine ⟨blk_cell r1 0 _ rfl, blk_cell r1 1 _ rfl, blk_cell r1 2 _ rfl, blk_cell r1 3 _ rfl, ((after hb0 h).cell (p := ⟨b, off + m * 2, none⟩) hb).trans g1, ((after hb0 h).cell (p := ⟨b, off + m * 2 + 1, none⟩) hb).trans g2, ?_⟩
      have : m = 0 ∨ m = 1 ∨ m = 2 ∨ m = 3 ∨ m = 4 ∨ m = 5 := by omega
      rcases this with rfl | rfl | rfl | rfl | rfl | rfl
      · exact blk_cell r0 0 _ rfl
      · exact blk_cell r0 1 _ rfl
      · exact blk_cell r0 2 _ rfl
      · exact blk_cell r0 3 _ rfl
      · exact blk_cell r0 4 _ rfl
      · exact blk_cell r0 5 _ rfl
    have hs1 : w.heap.size + 1 < W.heap.size := blk_lt b1
    clear g1 g2 b0 b1 hb0 hz
    cases all with
    | false =>
      go_upto_region 3 with (first | (go_at_call 130; refine (within_is _ _ _ _).mono ?_; rintro e w' ⟨rfl, hw'⟩; have hw' := hw'.symm; subst hw'))
      go_cut [7, 8] (fun s7 s8 wc => ∃ B, s7 = .pointer (some ⟨B, 0, none⟩) ∧ s8 = .bool (decide (In many 1 (F m))) ∧ wc.cell? ⟨B, 2, none⟩ = some (.int .i64 many) ∧ Below W.heap.size W wc)
      case first =>
        go_region_held3 (fun w' => w'.cell? ⟨w.heap.size + 1, 0, none⟩ = some (.int .i64 x) ∧ w'.cell? ⟨w.heap.size + 1, 1, none⟩ = some (.int .i64 (m : Int)) ∧ w'.cell? ⟨w.heap.size + 1, 2, none⟩ = some (.int .i64 many) ∧ w'.cell? ⟨w.heap.size + 1, 3, none⟩ = some (.bool false) ∧ w'.cell? ⟨b, off + m * 2, none⟩ = some (.int .i64 (p.A m)) ∧ w'.cell? ⟨b, off + m * 2 + 1, none⟩ = some (.int .i64 (p.B m)) ∧ w'.cell? ⟨w.heap.size, m, none⟩ = some (.int .i64 (F m)))
          ((refine keepS.out _ ?_; (repeat (first | exact Below.refl _ _ | refine Below.drew ?_ | refine push ?_ _ | refine setI ?_ (by omega) _ | refine after ?_ hb4 | refine after ?_ hb3))))
          (first | (go_at_call 181; refine (wayOf_any _ _ _ _ _).mono ?_; rintro e w3 ⟨rfl, hb3⟩; have s3 : W.heap.size ≤ w3.heap.size := (by have := hb3.size; first | omega | (simp at this; omega)); (first | (have hbx : w3.heap[W.heap.size]? = some (.cells #[.int .i64 0, .int .i64 0, .int .i64 0, .bool false] 128 (0, 0)) := blk_below (heap_alloc_new W.drew (.cells #[.int .i64 0, .int .i64 0, .int .i64 0, .bool false] 128)) hb3) | skip)) | (go_at_call 201; refine (roomInB_any _ _ _ _ _).mono ?_; rintro e w4 ⟨rfl, hb4⟩; (first | (have hby : w4.heap[W.heap.size]? = some (.cells #[.int .i64 0, .int .i64 0, .int .i64 0, .bool false] 128 (0, 0)) := blk_below hbx hb4; have y0 := blk_cell hby 0 _ rfl; have y1 := blk_cell hby 1 _ rfl; have y2 := blk_cell hby 2 _ rfl; have y3 := blk_cell hby 3 _ rfl; have f0 := blk_free hby 0; have f1 := blk_free hby 1; have f2 := blk_free hby 2; have f3 := blk_free hby 3) | (have hby := blk_below (heap_alloc_new w3 (.cells #[.int .i64 0, .int .i64 0, .int .i64 0, .bool false] 128)) hb4; have y0 := blk_cell hby 0 _ rfl; have y1 := blk_cell hby 1 _ rfl; have y2 := blk_cell hby 2 _ rfl; have y3 := blk_cell hby 3 _ rfl; have f0 := blk_free hby 0; have f1 := blk_free hby 1; have f2 := blk_free hby 2; have f3 := blk_free hby 3) | (have hby := blk_below (heap_alloc_new w3.drew (.cells #[.int .i64 0, .int .i64 0, .int .i64 0, .bool false] 128)) hb4; have y0 := blk_cell hby 0 _ rfl; have y1 := blk_cell hby 1 _ rfl; have y2 := blk_cell hby 2 _ rfl; have y3 := blk_cell hby 3 _ rfl; have f0 := blk_free hby 0; have f1 := blk_free hby 1; have f2 := blk_free hby 2; have f3 := blk_free hby 3) | skip)))
        all_goals
          go_wp2
          go_meet
          exact ⟨_, rfl, rfl, (by first | exact blk_cell (heap_alloc_new w4 _) 2 _ rfl | exact blk_cell (blk_set (blk_set (blk_set (blk_set hby 0 _) 1 _) 2 _) 3 _) 2 _ rfl), (by (repeat (first | exact Below.refl _ _ | refine Below.drew ?_ | refine push ?_ _ | refine setI ?_ (by omega) _ | refine after ?_ hb4 | refine after ?_ hb3)))⟩
      case rest =>
      obtain ⟨B, rfl, rfl, hc2, hbW⟩ := hcut
      have hd2 := (keepS.out _ hbW).2.2.1
      by_cases g5 : In many 1 (F m)
      · have e5 : decide (In many 1 (F m)) = true := decide_eq_true g5
        have H5 : Hid (In many 1 (F m)) := g5
        clear g5
        go_wp2
        go_ret
        exact ⟨says_yes ⟨by rw [HL.out]; exact H3.out, fun h => (by cases h), fun _ => H5.out⟩, after HB0.out hbW⟩
      · have e5 : decide (In many 1 (F m)) = false := decide_eq_false g5
        have H5 : Hid (¬ In many 1 (F m)) := g5
        clear g5
        go_wp2
        go_ret
        exact ⟨says_no (fun h => H5.out (h.2.2 rfl)), after HB0.out hbW⟩
    | true =>
      have hB0 : (0 : Int) ≤ p.B m := by have := (HG.out.2 m (by rw [HL.out]; exact hm)).2; unfold In at this; omega
      go_upto_region 3 with (first | (go_at_call 130; refine (within_is _ _ _ _).mono ?_; rintro e w' ⟨rfl, hw'⟩; have hw' := hw'.symm; subst hw'))
      go_cut [7, 8] (fun s7 s8 wc => ∃ B, s7 = .pointer (some ⟨B, 0, none⟩) ∧ s8 = .bool (decide (F m = p.B m)) ∧ wc.cell? ⟨B, 2, none⟩ = some (.int .i64 (p.B m)) ∧ Below W.heap.size W wc)
      case first =>
        go_region_held3 (fun w' => w'.cell? ⟨w.heap.size + 1, 0, none⟩ = some (.int .i64 x) ∧ w'.cell? ⟨w.heap.size + 1, 1, none⟩ = some (.int .i64 (m : Int)) ∧ w'.cell? ⟨w.heap.size + 1, 2, none⟩ = some (.int .i64 many) ∧ w'.cell? ⟨w.heap.size + 1, 3, none⟩ = some (.bool true) ∧ w'.cell? ⟨b, off + m * 2, none⟩ = some (.int .i64 (p.A m)) ∧ w'.cell? ⟨b, off + m * 2 + 1, none⟩ = some (.int .i64 (p.B m)) ∧ w'.cell? ⟨w.heap.size, m, none⟩ = some (.int .i64 (F m)))
          ((refine keepS.out _ ?_; (repeat (first | exact Below.refl _ _ | refine Below.drew ?_ | refine push ?_ _ | refine setI ?_ (by omega) _ | refine after ?_ hb4 | refine after ?_ hb3))))
          (first | (go_at_call 181; refine (wayOf_any _ _ _ _ _).mono ?_; rintro e w3 ⟨rfl, hb3⟩; have s3 : W.heap.size ≤ w3.heap.size := (by have := hb3.size; first | omega | (simp at this; omega)); (first | (have hbx : w3.heap[W.heap.size]? = some (.cells #[.int .i64 0, .int .i64 0, .int .i64 0, .bool false] 128 (0, 0)) := blk_below (heap_alloc_new W.drew (.cells #[.int .i64 0, .int .i64 0, .int .i64 0, .bool false] 128)) hb3) | skip)) | (go_at_call 200; refine (roomInW_any _ _ _ _ _).mono ?_; rintro e w4 ⟨rfl, hb4⟩; (first | (have hby : w4.heap[W.heap.size]? = some (.cells #[.int .i64 0, .int .i64 0, .int .i64 0, .bool false] 128 (0, 0)) := blk_below hbx hb4; have y0 := blk_cell hby 0 _ rfl; have y1 := blk_cell hby 1 _ rfl; have y2 := blk_cell hby 2 _ rfl; have y3 := blk_cell hby 3 _ rfl; have f0 := blk_free hby 0; have f1 := blk_free hby 1; have f2 := blk_free hby 2; have f3 := blk_free hby 3) | (have hby := blk_below (heap_alloc_new w3 (.cells #[.int .i64 0, .int .i64 0, .int .i64 0, .bool false] 128)) hb4; have y0 := blk_cell hby 0 _ rfl; have y1 := blk_cell hby 1 _ rfl; have y2 := blk_cell hby 2 _ rfl; have y3 := blk_cell hby 3 _ rfl; have f0 := blk_free hby 0; have f1 := blk_free hby 1; have f2 := blk_free hby 2; have f3 := blk_free hby 3) | (have hby := blk_below (heap_alloc_new w3.drew (.cells #[.int .i64 0, .int .i64 0, .int .i64 0, .bool false] 128)) hb4; have y0 := blk_cell hby 0 _ rfl; have y1 := blk_cell hby 1 _ rfl; have y2 := blk_cell hby 2 _ rfl; have y3 := blk_cell hby 3 _ rfl; have f0 := blk_free hby 0; have f1 := blk_free hby 1; have f2 := blk_free hby 2; have f3 := blk_free hby 3) | skip)))
        all_goals
          go_wp2
          go_meet
          exact ⟨_, rfl, rfl, (by first | exact blk_cell (heap_alloc_new w4 _) 2 _ rfl | exact blk_cell (blk_set (blk_set (blk_set (blk_set hby 0 _) 1 _) 2 _) 3 _) 2 _ rfl), (by (repeat (first | exact Below.refl _ _ | refine Below.drew ?_ | refine push ?_ _ | refine setI ?_ (by omega) _ | refine after ?_ hb4 | refine after ?_ hb3)))⟩
      case rest =>
      obtain ⟨B, rfl, rfl, hc2, hbW⟩ := hcut
      have hd2 := (keepS.out _ hbW).2.2.1
      by_cases g5 : F m = p.B m
      · have e5 : decide (F m = p.B m) = true := decide_eq_true g5
        have H5 : Hid (F m = p.B m) := g5
        clear g5
        by_cases g6 : many = p.B m
        · have e6 : (p.B m == many) = true := by simpa using g6.symm
          have H6 : Hid (many = p.B m) := g6
          clear g6
          go_wp2
          go_ret
          exact ⟨says_yes ⟨by rw [HL.out]; exact H3.out, fun _ => ⟨H5.out, H6.out⟩, fun h => (by cases h)⟩, after HB0.out hbW⟩
        · have e6 : (p.B m == many) = false := by simp; exact fun h => g6 h.symm
          have H6 : Hid (¬ many = p.B m) := g6
          clear g6
          go_wp2
          go_ret
          exact ⟨says_no (fun h => H6.out (h.2.1 rfl).2), after HB0.out hbW⟩
      · have e5 : decide (F m = p.B m) = false := decide_eq_false g5
        have H5 : Hid (¬ F m = p.B m) := g5
        clear g5
        go_wp2
        go_ret
        exact ⟨says_no (fun h => H5.out (h.2.1 rfl).1), after HB0.out hbW⟩
  · have e3 : decide (In cab 0 ((n : Int) - 1)) = false := decide_eq_false h3
    have H3 : Hid (¬ In cab 0 ((n : Int) - 1)) := h3
    clear h3
    go_wp2_with (first | (go_at_call 130; refine (within_is _ _ _ _).mono ?_; rintro e w' ⟨rfl, hw'⟩; have hw' := hw'.symm; subst hw'))
    go_ret
    exact ⟨says_no (fun h => H3.out (by have := h.1; rw [HL.out] at this; exact this)), hb0⟩

end Go.Proofs.YtaopapjnhlombaaGreat
