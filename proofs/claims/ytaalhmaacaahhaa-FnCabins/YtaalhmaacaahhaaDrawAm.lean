/-
  OWN TEXT: the contract of a cursor's among.
-/
import Derived.Test.YtaalhmaacaahhaaDraw1
namespace Go.Proofs.Ytaalhmaacaahhaa
open Go.RowKit

theorem among_any (cb : Nat) (ao : Option Addr) (n c a : Nat) (b off m cap : Nat) (F : Nat → Int) (w : World) (ha : a ≤ 900000000000000000) (hm : 1 ≤ m) (hm2 : m ≤ 100000) (h : CurIs w cb ao n c a) (hne : b ≠ cb) (hF : ∀ k, k < m → w.cell? ⟨b, off + k, none⟩ = some (.int .i64 (F k))) :
    Calls Try.prog 57 #[.pointer (some ⟨cb, 0, none⟩), .slice (some ⟨b, off, none⟩) m cap] w fun e w' => (∃ x : Int, e = .returned (.int .i64 x)) ∧ CurIs w' cb ao n c (a + 2) ∧ Kept w w' (fun b => b = cb) := by
  have HF : Hid (∀ k, k < m → w.cell? ⟨b, off + k, none⟩ = some (.int .i64 (F k))) := hF
  clear hF
  go_enter Try.func57, Try.ntmps57
  go_wp2_with fail
  refine (pick_any cb ao n c a m _ ha hm hm2 h).mono ?_
  rintro e w1 ⟨⟨r, rfl, hr⟩, hc1, hk1⟩
  have c1 := hk1.cellAt (HF.out r hr) hne
  have i1 : (r : Int) < (m : Int) := by omega
  go_wp2
  go_ret
  exact ⟨⟨_, rfl⟩, hc1, hk1⟩

end Go.Proofs.Ytaalhmaacaahhaa
