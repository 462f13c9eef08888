/-
  OWN TEXT: SpecWo, CopyI.
-/
import Derived.Test.YtdmkpflphjemoaaB12
namespace Go.Proofs.Ytdmkpflphjemoaa
open Go.RowKit

set_option maxHeartbeats 800000 in
set_option maxRecDepth 100000 in
theorem l2Without_any (ao : Option Addr) (n c : Nat) (l : Line) (x : Int) (w : World) (e1 : l.n = n) (hn : n ≤ 1048576) (hx : LineAt w ao l) :
    Calls Try.prog 57 #[.slice ao n c, .int .i64 x] w fun e w' => (∃ v, e = .returned v ∧ AsksIs w' w.heap.size v (lessTo l x n)) ∧ Below w.heap.size w w' := by
  obtain ⟨j0, ji, jz0, jz1, jz2⟩ := info_parts Try.infoAsked
  have E1 : Hid (l.n = n) := e1
  clear e1
  go_enter Try.func57, Try.ntmps57
  go_wp2
  go_loopg [5, 10] n (fun g v i wr => ∃ k : Nat, k ≤ n ∧ g = n - k ∧ i = .int .i64 k ∧ AsksIs wr w.heap.size v (lessTo l x k) ∧ Below w.heap.size w wr)
  case atStart => exact ⟨0, Nat.zero_le _, rfl, rfl, AsksIs.nil _ _, Below.refl _ _⟩
  case round =>
    obtain ⟨k, hk, rfl, rfl, hrow, hbel⟩ := hrel
    obtain ⟨av, cv, rfl, _⟩ := own_form hrow
    have hsz := hbel.size
    by_cases hlt : k < n
    · obtain ⟨b, off, rfl, h1, h2⟩ := hx k (by rw [E1.out]; omega)
      have hb := World.block_lt_of_cell? w _ h1
      have d1 := (hbel.cell (p := ⟨b, off + k * 2, none⟩) hb).trans h1
      have d2 := (hbel.cell (p := ⟨b, off + k * 2 + 1, none⟩) hb).trans h2
      clear h1 h2
      have HLN := lessTo_length l x k
      by_cases he : l.T k = x
      · have HE : Hid (lessTo l x (k + 1) = lessTo l x k) := lessTo_yes he
        rw [he] at d1
        clear he
        go_wp2
        go_roundg (n - (k + 1))
        case measure => omega
        case rel => exact ⟨k + 1, by omega, rfl, by go_num, by rw [HE.out]; exact hrow.below (push (Below.refl _ _) _), push hbel _⟩
      · have HE : Hid (lessTo l x (k + 1) = lessTo l x k ++ [(l.T k, l.S k)]) := lessTo_no he
        have hne : (l.T k == x) = false := by simpa using he
        generalize l.T k = y at *
        generalize l.S k = s at *
        generalize hqn : (lessTo l x k).length = qn at *
        have HQ : Hid ((lessTo l x k).length = qn) := hqn
        have HROW : Hid (wr.ownsRow w.heap.size 57 2 (.slice av qn cv) qn (cellsA (lessTo l x k))) := by
          have h := hrow
          unfold AsksIs at h
          rw [hqn] at h
          exact h
        clear hqn hrow
        go_wp2_with (first | (at_builtin; refine wpList_append_lies _ (by rfl) (.tmp 18) (.tmp 20) 58 (by rfl) w.heap.size 57 j0 (.agg #[.int .i64 0, .bool false]) 2 16 Try.underlying58 ji jz0 jz1 jz2 rfl (by decide) _ qn (cellsA (lessTo l x k)) (by rfl) ((HROW.out.alloc _).alloc _) ⟨wr.heap.size + 1, 0, none⟩ 1 1 [.int .i64 y, .bool s] (by rfl) (by rfl) (World.news_of_block (new_at2 wr _ _)) (by intro u hu; simp at hu; rcases hu with rfl | rfl <;> rfl) (by decide) (by unfold maxLen; omega) (by omega) (by simp; omega) (wr.heap.size + 2) (by simp) ?_; intro g cap w6 hown6 hgrow hat hlt6))
        go_roundg (n - (k + 1))
        case measure => omega
        case rel =>
          refine ⟨k + 1, by omega, rfl, by go_num, ?_, ?_⟩
          · unfold AsksIs
            rw [HE.out, cellsA_append, List.length_append, HQ.out]
            exact hown6
          · exact (push (push hbel _) _).grown hgrow (by simp; omega) (fun j hj => (World.ownsRow.lt HROW.out j hj).1)
    · obtain rfl : k = n := by omega
      go_wp2
      (try rw [Exit.noGoto_ret])
      go_ret
      exact ⟨⟨_, rfl, hrow⟩, hbel⟩

end Go.Proofs.Ytdmkpflphjemoaa

namespace Go.Proofs.Ytdmkpflphjemoaa
open Go.RowKit

set_option maxHeartbeats 800000 in
theorem copyAsked_any (ao : Option Addr) (n c : Nat) (l : Line) (w : World) (e1 : l.n = n) (hn : n ≤ 1048576) (hna : ao = none → n = 0 ∧ c = 0) (hx : LineAt w ao l) :
    Calls Try.prog 46 #[.slice ao n c] w fun e w' => (∃ v, e = .returned v ∧ w'.ownsRow w.heap.size 57 2 v n (askList l)) ∧ Below w.heap.size w w' := by
  obtain ⟨j0, ji, jz0, jz1, jz2⟩ := info_parts Try.infoAsked
  have E1 : Hid (l.n = n) := e1
  clear e1
  have ho : w.ownsRow w.heap.size 57 2 (.slice none 0 0) 0 [] := ⟨rfl, .inl ⟨rfl, rfl⟩⟩
  go_enter Try.func46, Try.ntmps46
  go_wp2_with (first | (at_builtin; refine wpList_append_any _ (by rfl) (.const (.slice none 0 0)) (.tmp 3) 58 (by rfl) w.heap.size 57 j0 (.agg #[.int .i64 0, .bool false]) 2 16 Try.underlying58 ji jz0 jz1 jz2 rfl (by decide) _ 0 [] (by rfl) ho ao n c (askList l) (by rfl) hna (by rw [askList_length, E1.out]) (line_cells hx) (askList_one l) (by unfold maxLen; omega) (by omega) (Nat.le_refl _) ?_; intro v' w3 ho3 hg3))
  (try rw [Exit.noGoto_ret])
  go_ret
  rw [Nat.zero_add, List.nil_append] at ho3
  exact ⟨⟨_, rfl, ho3⟩, (Below.refl _ _).grown hg3 (Nat.le_refl _) (fun j hj => by simp [Value.ownBlock] at hj)⟩

end Go.Proofs.Ytdmkpflphjemoaa
