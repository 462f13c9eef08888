/-
  OWN TEXT: the contract of impl.copyAsked.
-/
import Derived.Test.YtompknfmlnlnfaaWithI
namespace Go.Proofs.Ytompknfmlnlnfaa
open Go.RowKit

set_option maxHeartbeats 800000 in
theorem copyAsked_any (ao : Option Addr) (n c : Nat) (l : Line) (w : World) (e1 : l.n = n) (hn : n ≤ 1048576) (hna : ao = none → n = 0 ∧ c = 0) (hx : LineAt w ao l) :
    Calls Try.prog 61 #[.slice ao n c] w fun e w' => (∃ v, e = .returned v ∧ w'.ownsRow w.heap.size 65 2 v n (askList l)) ∧ Below w.heap.size w w' := by
  obtain ⟨j0, ji, jz0, jz1, jz2⟩ := info_parts Try.infoAsked
  have E1 : Hid (l.n = n) := e1
  clear e1
  have ho : w.ownsRow w.heap.size 65 2 (.slice none 0 0) 0 [] := ⟨rfl, .inl ⟨rfl, rfl⟩⟩
  go_enter Try.func61, Try.ntmps61
  go_wp2_with (first | (at_builtin; refine wpList_append_any _ (by rfl) (.const (.slice none 0 0)) (.tmp 3) 66 (by rfl) w.heap.size 65 j0 (.agg #[.int .i64 0, .bool false]) 2 16 Try.underlying66 ji jz0 jz1 jz2 rfl (by decide) _ 0 [] (by rfl) ho ao n c (askList l) (by rfl) hna (by rw [askList_length, E1.out]) (line_cells hx) (askList_one l) (by unfold maxLen; omega) (by omega) (Nat.le_refl _) ?_; intro v' w3 ho3 hg3))
  (try rw [Exit.noGoto_ret])
  go_ret
  rw [Nat.zero_add, List.nil_append] at ho3
  exact ⟨⟨_, rfl, ho3⟩, (Below.refl _ _).grown hg3 (Nat.le_refl _) (fun j hj => by simp [Value.ownBlock] at hj)⟩

end Go.Proofs.Ytompknfmlnlnfaa
