/-
  OWN TEXT: SettleM, InI.
-/
import Derived.Test.YtogbaoggebghdaaRows
import Derived.Deep.RegionHeld3
import Derived.Deep.LoopGhost
import Derived.Deep.DeepCutAuto
import Derived.Test.YtogbaoggebghdaaB17
import Derived.Test.YtogbaoggebghdaaB19
import Derived.Test.YtogbaoggebghdaaB09
namespace Go.Proofs.Ytogbaoggebghdaa
open Go.RowKit Classical Go.MapKept Go.ChangeMaps

theorem NameAt.at {N k p : Nat} {S : Nat → ClkD} {nm : ByteArray} (h : NameAt N S nm p) (hu : NamesUp N S) (hk : k < N) (hn : (S k).nam = nm) : p = k := by
  rcases Nat.lt_trichotomy p k with e | e | e
  · exact absurd (hn ▸ hu p k e hk) (h.2.2 p (Nat.le_refl _) (by omega))
  · exact e
  · exact absurd (hn ▸ h.2.1 k e) (textLt.irrefl nm)

set_option maxHeartbeats 6400000 in
set_option maxRecDepth 100000 in
theorem settleM_any (w : World) (base sb mb K : Nat) (a1 : Option Addr) (d1 N : Nat) (S : Nat → ClkD) (R : Nat → Value) (O : ByteArray → Prop) (k : Nat) (nm : ByteArray) (a : AnsD) (arw : Option Addr) (crw : Nat) (h : Staff w base sb mb K (.slice a1 N d1) N S R O) (hN : N ≤ 60) (hu : NamesUp N S) (hkN : k < N) (hkn : (S k).nam = nm) (hsz : nm.size ≤ 1048576) (han : a.rwn ≤ 1048576) (hr : MRowsAt w arw a.rwn a.rw) (hnil : arw = none → a.rwn = 0 ∧ crw = 0) :
    Calls Try.prog 50 #[.pointer (some ⟨sb, 0, none⟩), .string nm, .agg #[.int .i64 a.code, .int .i64 a.anam, .int .i64 a.price, .slice arw a.rwn crw]] w fun e w' => e = .returned (.tuple #[]) ∧ (∃ R', Staff w' base sb mb K (.slice a1 N d1) N (putC S k ((S k).told a)) R' (fun s => O s ∧ s ≠ nm)) ∧ Kept w w' (fun b => b = mb ∨ (Value.slice a1 N d1).ownBlock = some b) := by
  have HH : Hid (Staff w base sb mb K (.slice a1 N d1) N S R O) := h
  have HR : Hid (MRowsAt w arw a.rwn a.rw ∧ (arw = none → a.rwn = 0 ∧ crw = 0)) := ⟨hr, hnil⟩
  have HU : Hid (NamesUp N S) := hu
  have HKN : Hid ((S k).nam = nm) := hkn
  have hb0 : Below w.heap.size w (w.alloc (.cells #[.int .i64 a.code, .int .i64 a.anam, .int .i64 a.price, .slice arw a.rwn crw] 28)) := push (Below.refl _ _) _
  have bX : (w.alloc (.cells #[.int .i64 a.code, .int .i64 a.anam, .int .i64 a.price, .slice arw a.rwn crw] 28)).heap[w.heap.size]? = some (.cells #[.int .i64 a.code, .int .i64 a.anam, .int .i64 a.price, .slice arw a.rwn crw] 28 (0, 0)) := heap_alloc_new _ _
  obtain ⟨g, rfl, hg1, hg2⟩ := own_addr h.own.row (by omega)
  clear h hr hnil hu hkn
  go_enter Try.func50, Try.ntmps50
  go_upto_region 1 with fail
  generalize w.alloc (.cells #[.int .i64 a.code, .int .i64 a.anam, .int .i64 a.price, .slice arw a.rwn crw] 28) = V at hb0 bX ⊢
  go_wp2_with fail
  refine (find_any V base sb mb K _ N S R O nm (HH.out.below hb0) hN HU.out).mono ?_
  rintro e w1 ⟨⟨p, rfl, hp⟩, hb1⟩
  obtain rfl : p = k := hp.out.at HU.out hkN HKN.out
  rw [decide_eq_true (show p < N ∧ (S p).nam = nm from ⟨hkN, HKN.out⟩)]
  clear hp
  go_upto_region 2 with fail
  have HK1 : Hid (Below w.heap.size w w1) := after hb0 hb1
  have bX1 := blk_below bX hb1
  have HS1 : Hid (Staff w1 base sb mb K (.slice (some ⟨g, 0, none⟩) N d1) N S R O) := HH.out.below HK1.out
  clear bX hb0 hb1
  generalize w1 = Y at HK1 bX1 HS1 ⊢
  have x0 := blk_cell bX1 0 _ rfl
  have x1 := blk_cell bX1 1 _ rfl
  have x2 := blk_cell bX1 2 _ rfl
  have x3 := blk_cell bX1 3 _ rfl
  have s0 := blk_cell HS1.out.blk 0 _ rfl
  have i0 : (0 : Int) ≤ (p : Int) := by omega
  have i2 : (p : Int) < (N : Int) := by omega
  have HCALL : Hid (∀ Z, Below Y.heap.size Y Z → Calls Try.prog 65 #[.agg #[.int .i64 a.code, .int .i64 a.anam, .int .i64 a.price, .slice arw a.rwn crw]] Z fun e w3 => ∃ a3 c3, e = .returned (.agg #[.int .i64 a.code, .int .i64 a.anam, .int .i64 a.price, .slice a3 a.rwn c3]) ∧ Hid (w3.ownsRow Y.heap.size 84 5 (.slice a3 a.rwn c3) a.rwn (rowList a.rw a.rwn)) ∧ Below Y.heap.size Y w3) := fun Z hZ => (copyAnswer_any a.code a.anam a.price arw a.rwn crw a.rw Z han HR.out.2 (HR.out.1.below (after HK1.out hZ))).mono fun e w3 ⟨⟨a3, c3, h1, h2⟩, h3⟩ => ⟨a3, c3, h1, own_base h2 hZ.size, after hZ h3⟩
  go_region_law (first
    | (go_simp; go_at_call 65; (with_reducible refine Calls.mono (HCALL.out _ ?_) ?_); (focus (repeat (first | exact Below.refl _ _ | refine Below.drew ?_))); rintro e w3 ⟨a3, c3, rfl, HO3, hb3⟩; have z3 := HS1.out.below hb3; have t0 := blk_cell z3.blk 0 _ rfl; have t3 := own_cell z3.own.row (p * 7 + 3) (by omega) rfl; have t4 := own_cell z3.own.row (p * 7 + 4) (by omega) rfl; have t5 := own_cell z3.own.row (p * 7 + 5) (by omega) rfl; have t6 := own_cell z3.own.row (p * 7 + 6) (by omega) rfl; have tf : ∀ j, w3.frozen? ⟨g, j, none⟩ = false := (fun j => by obtain ⟨cur, hcur⟩ := own_blk z3.own.row (g := g) rfl; exact blk_free hcur _); have f3 := tf (p * 7 + 3); have f4 := tf (p * 7 + 4); have f5 := tf (p * 7 + 5); have f6 := tf (p * 7 + 6); clear tf; dsimp only))
  all_goals
    have hF := z3.own.put4 (k := p) a (fun i hi b hb => ((HS1.out.own.rows i hi).lt b hb).2) HO3.out (by have := HK1.out.size; omega)
    have hkF : Kept w3 ((((w3.setCell ⟨g, p * 7 + 3, none⟩ (.int .i64 a.code)).setCell ⟨g, p * 7 + 4, none⟩ (.int .i64 a.anam)).setCell ⟨g, p * 7 + 5, none⟩ (.int .i64 a.price)).setCell ⟨g, p * 7 + 6, none⟩ (.slice a3 a.rwn c3)) (fun x => x = g) :=
      ((((Kept.refl w3 (fun x => x = g)).set (a := ⟨g, p * 7 + 3, none⟩) rfl _).set (a := ⟨g, p * 7 + 4, none⟩) rfl _).set (a := ⟨g, p * 7 + 5, none⟩) rfl _).set (a := ⟨g, p * 7 + 6, none⟩) rfl _
    have HF : Hid (Staff ((((w3.setCell ⟨g, p * 7 + 3, none⟩ (.int .i64 a.code)).setCell ⟨g, p * 7 + 4, none⟩ (.int .i64 a.anam)).setCell ⟨g, p * 7 + 5, none⟩ (.int .i64 a.price)).setCell ⟨g, p * 7 + 6, none⟩ (.slice a3 a.rwn c3)) base sb mb K (.slice (some ⟨g, 0, none⟩) N d1) N (putC S p ((S p).told a)) (atV R p (.slice a3 a.rwn c3)) O) := ⟨hkF.blk z3.blk (fun e => z3.vs g rfl e.symm), z3.hsb, z3.hmb, hF, z3.set.kept hkF (fun e => z3.vm g rfl e.symm)⟩
    have HKF : Hid (Kept w ((((w3.setCell ⟨g, p * 7 + 3, none⟩ (.int .i64 a.code)).setCell ⟨g, p * 7 + 4, none⟩ (.int .i64 a.anam)).setCell ⟨g, p * 7 + 5, none⟩ (.int .i64 a.price)).setCell ⟨g, p * 7 + 6, none⟩ (.slice a3 a.rwn c3)) (fun b => b = mb ∨ (Value.slice (some ⟨g, 0, none⟩) N d1).ownBlock = some b)) := (Kept.of_below (after HK1.out hb3)).trans (hkF.mono (fun b e => Or.inr (by rw [e]; rfl)))
    clear hF hkF t0 t3 t4 t5 t6 f3 f4 f5 f6 z3 HO3 hb3
    generalize (((w3.setCell ⟨g, p * 7 + 3, none⟩ (.int .i64 a.code)).setCell ⟨g, p * 7 + 4, none⟩ (.int .i64 a.anam)).setCell ⟨g, p * 7 + 5, none⟩ (.int .i64 a.price)).setCell ⟨g, p * 7 + 6, none⟩ (.slice a3 a.rwn c3) = F at HF HKF ⊢
    obtain ⟨D, hD, hO⟩ := HF.out.set
    have HD : Hid (F.ownsMap Try.prog 9 (unitElem (H := Unit)) mb K D) := hD
    have HKEY : Hid (keyOf Try.prog 9 (.string nm) = some (strLit nm)) := key_text hsz
    have m1 := blk_cell HF.out.blk 1 _ rfl
    clear hD
    go_wp2_with (first | (at_delete; refine wpList_delete_own _ (by rfl) _ _ 100 9 (by rfl) 101 Try.keyedS Try.underlying100 _ mb K D (by rfl) HD.out _ _ (by rfl) HKEY.out ?_; intro w5 hown5 hturn5))
    go_end0
    have hk5 := kept_row hturn5.grown
    exact ⟨rfl, ⟨_, ⟨hk5.blk HF.out.blk (fun e => by cases e; exact HF.out.sm rfl), HF.out.hsb, HF.out.hmb, ⟨hk5.own HF.out.own.row (fun g hg e => by cases e; exact HF.out.vm _ hg rfl), fun i hi => hk5.own (HF.out.own.rows i hi) (fun g hg e => by cases e; exact HF.out.rm i hi _ hg rfl), HF.out.own.apart⟩, ⟨_, hown5, fun s => by
      by_cases e : s = nm
      · subst e
        rw [Maps.has_del_same]
        simp
      · rw [Maps.has_del_other (fun h => e (strLit_inj h)), hO s]
        simp [e]⟩⟩⟩, HKF.out.trans (hk5.mono (fun b e => by cases e; exact Or.inl rfl))⟩

end Go.Proofs.Ytogbaoggebghdaa

namespace Go.Proofs.Ytogbaoggebghdaa
open Go.RowKit

theorem within_yes (x lo hi : Int) (w : World) (h : In x lo hi) :
    Calls Try.prog 81 #[.int .i64 x, .int .i64 lo, .int .i64 hi] w fun e w' => e = .returned (.bool true) ∧ w' = w := by
  have e1 : decide (lo ≤ x) = true := by simpa using h.1
  have e2 : decide (x ≤ hi) = true := by simpa using h.2
  clear h
  go_enter Try.func81, Try.ntmps81
  go_wp2
  go_ret
  exact ⟨rfl, rfl⟩
theorem within_no (x lo hi : Int) (w : World) (h : ¬ In x lo hi) :
    Calls Try.prog 81 #[.int .i64 x, .int .i64 lo, .int .i64 hi] w fun e w' => e = .returned (.bool false) ∧ w' = w := by
  by_cases h1 : lo ≤ x
  · have e1 : decide (lo ≤ x) = true := by simpa using h1
    have e2 : decide (x ≤ hi) = false := by simp; exact Int.not_le.1 (fun h2 => h ⟨h1, h2⟩)
    clear h h1
    go_enter Try.func81, Try.ntmps81
    go_wp2
    go_ret
    exact ⟨rfl, rfl⟩
  · have e1 : decide (lo ≤ x) = false := by simpa using h1
    clear h h1
    go_enter Try.func81, Try.ntmps81
    go_wp2
    go_ret
    exact ⟨rfl, rfl⟩
/-- isWithin in one word: it answers whether x lies there, and the world is as it was. -/
theorem within_is (x lo hi : Int) (w : World) :
    Calls Try.prog 81 #[.int .i64 x, .int .i64 lo, .int .i64 hi] w fun e w' => e = .returned (.bool (decide (In x lo hi))) ∧ w' = w := by
  by_cases h : In x lo hi
  · rw [decide_eq_true h]; exact within_yes x lo hi w h
  · rw [decide_eq_false h]; exact within_no x lo hi w h

end Go.Proofs.Ytogbaoggebghdaa
