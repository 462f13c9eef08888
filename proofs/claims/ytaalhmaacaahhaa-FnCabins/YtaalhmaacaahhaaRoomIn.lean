/-
  OWN TEXT: contracts of the program's two ways of having a cabin, and of wayOf.
-/
import Derived.Test.YtaalhmaacaahhaaImplV
import Derived.Test.YtaalhmaacaahhaaKit2
namespace Go.Proofs.Ytaalhmaacaahhaa
open Go.RowKit

set_option maxHeartbeats 3200000 in
set_option maxRecDepth 100000 in
theorem roomInB_any (many cl be free : Int) (w : World) :
    Calls Try.prog 226 #[.agg #[.int .i64 many], .agg #[.int .i64 cl, .int .i64 be], .int .i64 free] w fun e w' => e = .returned (.tuple #[.agg #[.int .i64 0, .int .i64 0, .int .i64 many, .bool false], .bool (decide (In many 1 free))]) ∧ Below w.heap.size w w' := by
  go_enter Try.func226, Try.ntmps226
  go_upto_region 1 with fail
  go_region_with (first | (go_at_call 87; refine (within_is _ _ _ _).mono ?_; rintro e w' ⟨rfl, hw'⟩; have hw' := hw'.symm; subst hw'))
  all_goals
    have r3 : (((w.alloc (.cells #[.int .i64 many] 181)).alloc (.cells #[.int .i64 cl, .int .i64 be] 85)).alloc (.cells #[.int .i64 0, .int .i64 0, .int .i64 many, .bool false] 174)).drew.heap[w.heap.size + 1 + 1]? = some (.cells #[.int .i64 0, .int .i64 0, .int .i64 many, .bool false] 174 (0, 0)) := by
      have := heap_alloc_new ((w.alloc (.cells #[.int .i64 many] 181)).alloc (.cells #[.int .i64 cl, .int .i64 be] 85)) (.cells #[.int .i64 0, .int .i64 0, .int .i64 many, .bool false] 174)
      rw [World.size_alloc, World.size_alloc] at this
      exact blk_drew this
    have q0 := blk_cell r3 0 _ rfl
    have q1 := blk_cell r3 1 _ rfl
    have q2 := blk_cell r3 2 _ rfl
    have q3 := blk_cell r3 3 _ rfl
    have HB : Hid (Below w.heap.size w (((w.alloc (.cells #[.int .i64 many] 181)).alloc (.cells #[.int .i64 cl, .int .i64 be] 85)).alloc (.cells #[.int .i64 0, .int .i64 0, .int .i64 many, .bool false] 174)).drew) := (push (push (push (Below.refl _ _) _) _) _).drew
    clear r3
    generalize (((w.alloc (.cells #[.int .i64 many] 181)).alloc (.cells #[.int .i64 cl, .int .i64 be] 85)).alloc (.cells #[.int .i64 0, .int .i64 0, .int .i64 many, .bool false] 174)).drew = W at *
    go_wp2
    exact bodyPost_ret (v := .tuple #[.agg #[.int .i64 0, .int .i64 0, .int .i64 many, .bool false], .bool (decide (In many 1 free))]) (by simp [results, Try.results226, go_sem, q0, q1, q2, q3]) rfl ⟨rfl, HB.out⟩

set_option maxHeartbeats 3200000 in
set_option maxRecDepth 100000 in
theorem roomInW_any (least cl be free : Int) (w : World) :
    Calls Try.prog 227 #[.agg #[.int .i64 least], .agg #[.int .i64 cl, .int .i64 be], .int .i64 free] w fun e w' => e = .returned (.tuple #[.agg #[.int .i64 0, .int .i64 0, .int .i64 be, .bool true], .bool (decide (free = be ∧ least ≤ be))]) ∧ Below w.heap.size w w' := by
  by_cases h : free = be
  · have e1 : (free == be) = true := by simpa using h
    by_cases h2 : least ≤ be
    · have e2 : decide (least ≤ be) = true := decide_eq_true h2
      have HD : Hid (decide (free = be ∧ least ≤ be) = true) := decide_eq_true ⟨h, h2⟩
      clear h h2
      go_enter Try.func227, Try.ntmps227
      go_upto_region 1 with fail
      go_region
      all_goals
        have r3 : (((w.alloc (.cells #[.int .i64 least] 224)).alloc (.cells #[.int .i64 cl, .int .i64 be] 85)).alloc (.cells #[.int .i64 0, .int .i64 0, .int .i64 be, .bool true] 174)).drew.heap[w.heap.size + 1 + 1]? = some (.cells #[.int .i64 0, .int .i64 0, .int .i64 be, .bool true] 174 (0, 0)) := by
          have := heap_alloc_new ((w.alloc (.cells #[.int .i64 least] 224)).alloc (.cells #[.int .i64 cl, .int .i64 be] 85)) (.cells #[.int .i64 0, .int .i64 0, .int .i64 be, .bool true] 174)
          rw [World.size_alloc, World.size_alloc] at this
          exact blk_drew this
        have q0 := blk_cell r3 0 _ rfl
        have q1 := blk_cell r3 1 _ rfl
        have q2 := blk_cell r3 2 _ rfl
        have q3 := blk_cell r3 3 _ rfl
        have HB : Hid (Below w.heap.size w (((w.alloc (.cells #[.int .i64 least] 224)).alloc (.cells #[.int .i64 cl, .int .i64 be] 85)).alloc (.cells #[.int .i64 0, .int .i64 0, .int .i64 be, .bool true] 174)).drew) := (push (push (push (Below.refl _ _) _) _) _).drew
        clear r3
        generalize (((w.alloc (.cells #[.int .i64 least] 224)).alloc (.cells #[.int .i64 cl, .int .i64 be] 85)).alloc (.cells #[.int .i64 0, .int .i64 0, .int .i64 be, .bool true] 174)).drew = W at *
        go_wp2
        exact bodyPost_ret (v := .tuple #[.agg #[.int .i64 0, .int .i64 0, .int .i64 be, .bool true], .bool true]) (by simp [results, Try.results227, go_sem, q0, q1, q2, q3]) rfl ⟨by rw [HD.out], HB.out⟩
    · have e2 : decide (least ≤ be) = false := decide_eq_false h2
      have HD : Hid (decide (free = be ∧ least ≤ be) = false) := decide_eq_false (fun q => h2 q.2)
      clear h h2
      go_enter Try.func227, Try.ntmps227
      go_upto_region 1 with fail
      go_region
      all_goals
        have r3 : (((w.alloc (.cells #[.int .i64 least] 224)).alloc (.cells #[.int .i64 cl, .int .i64 be] 85)).alloc (.cells #[.int .i64 0, .int .i64 0, .int .i64 be, .bool true] 174)).drew.heap[w.heap.size + 1 + 1]? = some (.cells #[.int .i64 0, .int .i64 0, .int .i64 be, .bool true] 174 (0, 0)) := by
          have := heap_alloc_new ((w.alloc (.cells #[.int .i64 least] 224)).alloc (.cells #[.int .i64 cl, .int .i64 be] 85)) (.cells #[.int .i64 0, .int .i64 0, .int .i64 be, .bool true] 174)
          rw [World.size_alloc, World.size_alloc] at this
          exact blk_drew this
        have q0 := blk_cell r3 0 _ rfl
        have q1 := blk_cell r3 1 _ rfl
        have q2 := blk_cell r3 2 _ rfl
        have q3 := blk_cell r3 3 _ rfl
        have HB : Hid (Below w.heap.size w (((w.alloc (.cells #[.int .i64 least] 224)).alloc (.cells #[.int .i64 cl, .int .i64 be] 85)).alloc (.cells #[.int .i64 0, .int .i64 0, .int .i64 be, .bool true] 174)).drew) := (push (push (push (Below.refl _ _) _) _) _).drew
        clear r3
        generalize (((w.alloc (.cells #[.int .i64 least] 224)).alloc (.cells #[.int .i64 cl, .int .i64 be] 85)).alloc (.cells #[.int .i64 0, .int .i64 0, .int .i64 be, .bool true] 174)).drew = W at *
        go_wp2
        exact bodyPost_ret (v := .tuple #[.agg #[.int .i64 0, .int .i64 0, .int .i64 be, .bool true], .bool false]) (by simp [results, Try.results227, go_sem, q0, q1, q2, q3]) rfl ⟨by rw [HD.out], HB.out⟩
  · have e1 : (free == be) = false := by simpa using h
    have HD : Hid (decide (free = be ∧ least ≤ be) = false) := decide_eq_false (fun q => h q.1)
    clear h
    go_enter Try.func227, Try.ntmps227
    go_upto_region 1 with fail
    go_region
    all_goals
      have r3 : (((w.alloc (.cells #[.int .i64 least] 224)).alloc (.cells #[.int .i64 cl, .int .i64 be] 85)).alloc (.cells #[.int .i64 0, .int .i64 0, .int .i64 be, .bool true] 174)).drew.heap[w.heap.size + 1 + 1]? = some (.cells #[.int .i64 0, .int .i64 0, .int .i64 be, .bool true] 174 (0, 0)) := by
        have := heap_alloc_new ((w.alloc (.cells #[.int .i64 least] 224)).alloc (.cells #[.int .i64 cl, .int .i64 be] 85)) (.cells #[.int .i64 0, .int .i64 0, .int .i64 be, .bool true] 174)
        rw [World.size_alloc, World.size_alloc] at this
        exact blk_drew this
      have q0 := blk_cell r3 0 _ rfl
      have q1 := blk_cell r3 1 _ rfl
      have q2 := blk_cell r3 2 _ rfl
      have q3 := blk_cell r3 3 _ rfl
      have HB : Hid (Below w.heap.size w (((w.alloc (.cells #[.int .i64 least] 224)).alloc (.cells #[.int .i64 cl, .int .i64 be] 85)).alloc (.cells #[.int .i64 0, .int .i64 0, .int .i64 be, .bool true] 174)).drew) := (push (push (push (Below.refl _ _) _) _) _).drew
      clear r3
      generalize (((w.alloc (.cells #[.int .i64 least] 224)).alloc (.cells #[.int .i64 cl, .int .i64 be] 85)).alloc (.cells #[.int .i64 0, .int .i64 0, .int .i64 be, .bool true] 174)).drew = W at *
      go_wp2
      exact bodyPost_ret (v := .tuple #[.agg #[.int .i64 0, .int .i64 0, .int .i64 be, .bool true], .bool false]) (by simp [results, Try.results227, go_sem, q0, q1, q2, q3]) rfl ⟨by rw [HD.out], HB.out⟩

/-- The two ways behind the interface: none is a nil pointer, and which function is called. -/
theorem nilB (many : Int) (w : World) : (nilAhead 383 181 (.agg #[.int .i64 many]) "loop.example/g00084/impl.roomIn").run Try.prog w = .ok (some false) w := by kernel_rfl
theorem nilW (least : Int) (w : World) : (nilAhead 383 224 (.agg #[.int .i64 least]) "loop.example/g00084/impl.roomIn").run Try.prog w = .ok (some false) w := by kernel_rfl
theorem methB (many : Int) (w : World) : (method 383 181 (.agg #[.int .i64 many]) "loop.example/g00084/impl.roomIn").run Try.prog w = .ok (226, .agg #[.int .i64 many]) w := by kernel_rfl
theorem methW (least : Int) (w : World) : (method 383 224 (.agg #[.int .i64 least]) "loop.example/g00084/impl.roomIn").run Try.prog w = .ok (227, .agg #[.int .i64 least]) w := by kernel_rfl

theorem wayOf_any (x c many : Int) (all : Bool) (w : World) :
    Calls Try.prog 195 #[.agg #[.int .i64 x, .int .i64 c, .int .i64 many, .bool all]] w fun e w' => e = .returned (if all then .iface 224 (.agg #[.int .i64 0]) else .iface 181 (.agg #[.int .i64 many])) ∧ Below w.heap.size w w' := by
  cases all with
  | false =>
    go_enter Try.func195, Try.ntmps195
    go_wp2
    go_ret
    exact ⟨rfl, push (Below.refl _ _) _⟩
  | true =>
    go_enter Try.func195, Try.ntmps195
    go_wp2
    go_ret
    exact ⟨rfl, push (Below.refl _ _) _⟩

end Go.Proofs.Ytaalhmaacaahhaa
