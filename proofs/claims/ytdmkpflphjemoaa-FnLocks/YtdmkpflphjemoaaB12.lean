/-
  OWN TEXT: SortJ, WithI.
-/
import Derived.Test.YtdmkpflphjemoaaB11
import Derived.Test.YtdmkpflphjemoaaB05
import Derived.Test.YtdmkpflphjemoaaB10
namespace Go.Proofs.Ytdmkpflphjemoaa
open Go.RowKit

theorem len_few (n : Nat) (w : World) (hn : n ≤ 12) : Calls Try.prog 56 #[.int .u64 n] w fun e w' => (∃ r : Int, e = .returned (.int .i64 r)) ∧ w' = w := by
  go_enter Try.func56, Try.ntmps56
  go_wp2_with fail
  refine (len64_few n _ hn).mono ?_
  rintro e w' ⟨⟨r, rfl⟩, rfl⟩
  go_wp2
  go_ret
  exact ⟨⟨_, rfl⟩, rfl⟩

set_option maxHeartbeats 1600000 in
set_option maxRecDepth 100000 in
theorem pdq_own (ao : Option Addr) (n c base : Nat) (f : Nat → Int) (r : Int) (w : World) (hn : n ≤ 12) (hi : InjTo f n) (ho : w.ownsRow base 3 1 (.slice ao n c) n (intList f n)) :
    Calls Try.prog 55 #[.slice ao n c, .int .i64 0, .int .i64 n, .int .i64 r] w fun e w' => e = .returned (.tuple #[]) ∧ (∃ f', w'.ownsRow base 3 1 (.slice ao n c) n (intList f' n) ∧ Hid (RiseTo f' n ∧ SameTo f' f n)) ∧ Kept w w' (fun b => (Value.slice ao n c).ownBlock = some b) := by
  have HI : Hid (InjTo f n) := hi
  clear hi
  have d0 : decide ((n : Int) ≤ 12) = true := by simp; omega
  go_enter Try.func55, Try.ntmps55
  go_wp2
  go_loopg [1, 2] 1 (fun g i j wr => g = 1 ∧ i = .int .i64 0 ∧ j = .int .i64 n ∧ wr = w)
  case atStart => exact ⟨rfl, rfl, rfl, rfl⟩
  case round =>
    obtain ⟨rfl, rfl, rfl, rfl⟩ := hrel
    go_wp2_with fail
    refine (insertion_own ao n c base f _ hn HI.out ho).mono ?_
    rintro e w1 ⟨rfl, ⟨f', ho1, HF⟩, hk1⟩
    go_wp2
    first
      | exact bodyPost_ret (v := .tuple #[]) (by simp [results, Try.results55, go_sem]) rfl ⟨rfl, ⟨f', ho1, HF⟩, hk1⟩
      | exact bodyPost_end (v := .tuple #[]) (by simp [results, Try.results55, go_sem]) rfl ⟨rfl, ⟨f', ho1, HF⟩, hk1⟩

set_option maxHeartbeats 800000 in
theorem sort_own (ao : Option Addr) (n c base : Nat) (f : Nat → Int) (w : World) (hn : n ≤ 12) (hi : InjTo f n) (ho : w.ownsRow base 3 1 (.slice ao n c) n (intList f n)) :
    Calls Try.prog 42 #[.slice ao n c] w fun e w' => e = .returned (.tuple #[]) ∧ (∃ f', w'.ownsRow base 3 1 (.slice ao n c) n (intList f' n) ∧ Hid (RiseTo f' n ∧ SameTo f' f n)) ∧ Kept w w' (fun b => (Value.slice ao n c).ownBlock = some b) := by
  have HI : Hid (InjTo f n) := hi
  clear hi
  have hw : IntKind.u64.wrap (n : Int) = (n : Int) := by rw [IntKind.wrap_u64]; omega
  go_enter Try.func42, Try.ntmps42
  go_wp2_with fail
  refine (len_few n _ hn).mono ?_
  rintro e w' ⟨⟨r, rfl⟩, hw'⟩
  have hw1 := hw'.symm
  subst hw1
  go_wp2_with fail
  refine (pdq_own ao n c base f r _ hn HI.out ho).mono ?_
  rintro e w1 ⟨rfl, ⟨f', ho1, HF⟩, hk1⟩
  go_wp2
  first
    | exact bodyPost_end (v := .tuple #[]) (by simp [results, Try.results42, go_sem]) rfl ⟨rfl, ⟨f', ho1, HF⟩, hk1⟩
    | exact bodyPost_ret (v := .tuple #[]) (by simp [results, Try.results42, go_sem]) rfl ⟨rfl, ⟨f', ho1, HF⟩, hk1⟩

theorem getI_of (f : Nat → Int) (n k : Nat) (h : k < n) : getI ((List.range n).map f) k = f k := by
  simp [getI, List.getElem?_range h]
/-- The list that was sorted, as a rising list of the same numbers. -/
theorem sort_list {f' : Nat → Int} {ks : List Int} {n : Nat} (hn : n = ks.length) (hr : RiseTo f' n) (hs : SameTo f' (getI ks) n) : ∃ ts, Strict ts ∧ (∀ y, y ∈ ts ↔ y ∈ ks) ∧ ts.length = ks.length ∧ intList f' n = cellsI ts := by
  refine ⟨(List.range n).map f', ?_, ?_, by simp [hn], ?_⟩
  · refine List.pairwise_map.2 (List.Pairwise.imp_of_mem (fun {a b} ha hb hab => ?_) List.pairwise_lt_range)
    exact hr a b hab (List.mem_range.1 hb)
  · intro y
    rw [getI_mem (ws := ks), ← hn, ← hs y]
    simp [List.mem_map]
  · unfold cellsI intList
    rw [List.length_map, List.length_range]
    refine List.map_congr_left (fun k hk => ?_)
    rw [getI_of f' n k (List.mem_range.1 hk)]
theorem inj_of_nodup {ks : List Int} (h : ks.Nodup) : InjTo (getI ks) ks.length := by
  intro p q hpq hq e
  have hp : p < ks.length := by omega
  simp only [getI, List.getD_eq_getElem?_getD, List.getElem?_eq_getElem hp, List.getElem?_eq_getElem hq, Option.getD_some] at e
  have := (List.getElem_inj h).1 e
  omega

end Go.Proofs.Ytdmkpflphjemoaa

namespace Go.Proofs.Ytdmkpflphjemoaa
open Go.RowKit

/-- The first k of a line. -/
def asksTo (l : Line) (k : Nat) : List (Int × Bool) := (List.range k).map (fun i => (l.T i, l.S i))
theorem asksTo_succ (l : Line) (k : Nat) : asksTo l (k + 1) = asksTo l k ++ [(l.T k, l.S k)] := by simp [asksTo, List.range_succ]
theorem asksTo_length (l : Line) (k : Nat) : (asksTo l k).length = k := by simp [asksTo]
/-- Those of the first k that are not x. -/
def lessTo (l : Line) (x : Int) (k : Nat) : List (Int × Bool) := (asksTo l k).filter (fun a => a.1 != x)
theorem lessTo_yes {l : Line} {x : Int} {k : Nat} (h : l.T k = x) : lessTo l x (k + 1) = lessTo l x k := by simp [lessTo, asksTo_succ, h]
theorem lessTo_no {l : Line} {x : Int} {k : Nat} (h : l.T k ≠ x) : lessTo l x (k + 1) = lessTo l x k ++ [(l.T k, l.S k)] := by simp [lessTo, asksTo_succ, h]
theorem lessTo_length (l : Line) (x : Int) (k : Nat) : (lessTo l x k).length ≤ k := by
  have := List.length_filter_le (fun a : Int × Bool => a.1 != x) (asksTo l k)
  rw [asksTo_length] at this
  exact this
def cellsA : List (Int × Bool) → List Value
  | [] => []
  | a :: l => .int .i64 a.1 :: .bool a.2 :: cellsA l
theorem cellsA_append (a b : List (Int × Bool)) : cellsA (a ++ b) = cellsA a ++ cellsA b := by
  induction a with
  | nil => rfl
  | cons x a ih => simp only [List.cons_append, cellsA, ih]
theorem cellsA_length (a : List (Int × Bool)) : (cellsA a).length = a.length * 2 := by
  induction a with
  | nil => rfl
  | cons x a ih => simp only [cellsA, List.length_cons, ih]; omega
/-- A row of asked ones of one's own. -/
def AsksIs (w : World) (base : Nat) (v : Value) (ys : List (Int × Bool)) : Prop := w.ownsRow base 57 2 v ys.length (cellsA ys)
theorem AsksIs.nil (w : World) (base : Nat) : AsksIs w base (.slice none 0 0) [] := ⟨rfl, .inl ⟨rfl, rfl⟩⟩
theorem AsksIs.below {w w' : World} {base : Nat} {v : Value} {ys : List (Int × Bool)} (h : AsksIs w base v ys) (hb : Below w.heap.size w w') : AsksIs w' base v ys := own_below hb h

theorem new_at2 (w : World) (o p : Obj) : ((w.alloc o).alloc p).heap[w.heap.size + 1]? = some p := by
  have h := heap_alloc_new (w.alloc o) p
  rw [show (w.alloc o).heap.size = w.heap.size + 1 by simp] at h
  exact h

set_option maxHeartbeats 800000 in
set_option maxRecDepth 100000 in
theorem without_any (ao : Option Addr) (n c : Nat) (l : Line) (x : Int) (w : World) (e1 : l.n = n) (hn : n ≤ 1048576) (hx : LineAt w ao l) :
    Calls Try.prog 40 #[.slice ao n c, .int .i64 x] w fun e w' => (∃ v, e = .returned v ∧ AsksIs w' w.heap.size v (lessTo l x n)) ∧ Below w.heap.size w w' := by
  obtain ⟨j0, ji, jz0, jz1, jz2⟩ := info_parts Try.infoAsked
  have E1 : Hid (l.n = n) := e1
  clear e1
  go_enter Try.func40, Try.ntmps40
  go_wp2
  go_loopg [5, 10] n (fun g v i wr => ∃ k : Nat, k ≤ n ∧ g = n - k ∧ i = .int .i64 k ∧ AsksIs wr w.heap.size v (lessTo l x k) ∧ Below w.heap.size w wr)
  case atStart => exact ⟨0, Nat.zero_le _, rfl, rfl, AsksIs.nil _ _, Below.refl _ _⟩
  case round =>
    obtain ⟨k, hk, rfl, rfl, hrow, hbel⟩ := hrel
    obtain ⟨av, cv, rfl, _⟩ := own_form hrow
    have hsz := hbel.size
    by_cases hlt : k < n
    · obtain ⟨b, off, rfl, h1, h2⟩ := hx k (by rw [E1.out]; omega)
      have hb := World.block_lt_of_cell? w _ h1
      have d1 := (hbel.cell (p := ⟨b, off + k * 2, none⟩) hb).trans h1
      have d2 := (hbel.cell (p := ⟨b, off + k * 2 + 1, none⟩) hb).trans h2
      clear h1 h2
      have HLN := lessTo_length l x k
      by_cases he : l.T k = x
      · have HE : Hid (lessTo l x (k + 1) = lessTo l x k) := lessTo_yes he
        rw [he] at d1
        clear he
        go_wp2
        go_roundg (n - (k + 1))
        case measure => omega
        case rel => exact ⟨k + 1, by omega, rfl, by go_num, by rw [HE.out]; exact hrow.below (push (Below.refl _ _) _), push hbel _⟩
      · have HE : Hid (lessTo l x (k + 1) = lessTo l x k ++ [(l.T k, l.S k)]) := lessTo_no he
        have hne : (l.T k == x) = false := by simpa using he
        generalize l.T k = y at *
        generalize l.S k = s at *
        generalize hqn : (lessTo l x k).length = qn at *
        have HQ : Hid ((lessTo l x k).length = qn) := hqn
        have HROW : Hid (wr.ownsRow w.heap.size 57 2 (.slice av qn cv) qn (cellsA (lessTo l x k))) := by
          have h := hrow
          unfold AsksIs at h
          rw [hqn] at h
          exact h
        clear hqn hrow
        go_wp2_with (first | (at_builtin; refine wpList_append_lies _ (by rfl) (.tmp 18) (.tmp 20) 58 (by rfl) w.heap.size 57 j0 (.agg #[.int .i64 0, .bool false]) 2 16 Try.underlying58 ji jz0 jz1 jz2 rfl (by decide) _ qn (cellsA (lessTo l x k)) (by rfl) ((HROW.out.alloc _).alloc _) ⟨wr.heap.size + 1, 0, none⟩ 1 1 [.int .i64 y, .bool s] (by rfl) (by rfl) (World.news_of_block (new_at2 wr _ _)) (by intro u hu; simp at hu; rcases hu with rfl | rfl <;> rfl) (by decide) (by unfold maxLen; omega) (by omega) (by simp; omega) (wr.heap.size + 2) (by simp) ?_; intro g cap w6 hown6 hgrow hat hlt6))
        go_roundg (n - (k + 1))
        case measure => omega
        case rel =>
          refine ⟨k + 1, by omega, rfl, by go_num, ?_, ?_⟩
          · unfold AsksIs
            rw [HE.out, cellsA_append, List.length_append, HQ.out]
            exact hown6
          · exact (push (push hbel _) _).grown hgrow (by simp; omega) (fun j hj => (World.ownsRow.lt HROW.out j hj).1)
    · obtain rfl : k = n := by omega
      go_wp2
      (try rw [Exit.noGoto_ret])
      go_ret
      exact ⟨⟨_, rfl, hrow⟩, hbel⟩

end Go.Proofs.Ytdmkpflphjemoaa
